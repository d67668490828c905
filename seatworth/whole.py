"""Whole numbers: ints that are no truths."""


def is_whole(thing):
    """Tell whether a thing of whatever kind is a whole number."""
    # True and False are ints to Python, so isinstance alone would let them in.
    return isinstance(thing, int) and not isinstance(thing, bool)
