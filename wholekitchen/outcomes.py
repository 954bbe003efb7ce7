"""What comes of a call: the state that it made, and the numbers it answers.

The state is None where the call is no change, and all stays as it was.
"""


def refused(refusal):
    return (None, [refusal])


def told(numbers):
    return (None, numbers)


def changed(state, numbers):
    return (state, numbers)
