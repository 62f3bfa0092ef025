"""Whole numbers."""


def between(value, low, high):
    """Whether a value is a whole number from low to high."""
    # Python takes True and False for integers, the document doesn't.
    return isinstance(value, int) and not isinstance(value, bool) and low <= value <= high
