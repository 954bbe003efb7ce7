"""A kitchen, whole: goods in lots, recipes, meals, what lacks for them, and a clock for each day."""
