"""A kitchen, whole: its goods, the lots they lie in, and its recipes."""
