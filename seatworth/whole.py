"""Whole numbers: ints that are no truths."""


def is_whole(thing):
    """Tell whether a thing of whatever kind is a whole number."""
    # True and False are ints to Python, so isinstance alone would let them in.
    return isinstance(thing, int) and not isinstance(thing, bool)


def is_between(thing, least, most):
    """Tell whether a thing of whatever kind is a whole number from the least to the most one."""
    return is_whole(thing) and least <= thing <= most


def is_rising(thing, most):
    """Tell whether a thing of whatever kind is a rising tuple of whole numbers from 0 to the most one."""
    if not isinstance(thing, tuple) or not all([is_between(part, 0, most) for part in thing]):
        return False
    return all([one < other for one, other in zip(thing, thing[1:])])
