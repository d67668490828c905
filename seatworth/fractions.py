"""Fractions: tuples (top, bottom) of whole numbers, in least terms, the bottom from 1 on."""

from seatworth.errors import NoNumber
from seatworth.whole import is_whole


def is_fraction(thing):
    """Tell whether a thing of whatever kind is a fraction."""
    if not isinstance(thing, tuple) or len(thing) != 2:
        return False
    top, bottom = thing
    return can_divide(top, bottom) and greatest_divisor(top, bottom) == 1


def are_fractions(thing, many):
    """Tell whether a thing of whatever kind is a tuple of so many fractions from nought on."""
    if not isinstance(thing, tuple) or len(thing) != many:
        return False
    return all([is_fraction(part) and part[0] >= 0 for part in thing])


def fraction(top, bottom):
    """Tell the fraction that is top divided by bottom."""
    # The text names no value: Python refuses to write out very long numbers.
    if not can_divide(top, bottom):
        raise NoNumber("not two whole numbers, the second one from 1 on")
    divisor = greatest_divisor(top, bottom)
    return (top // divisor, bottom // divisor)


def added(one, other):
    """Tell the one fraction and the other one together."""
    need_fractions(one, other)
    return fraction(one[0] * other[1] + other[0] * one[1], one[1] * other[1])


def is_less(one, other):
    """Tell whether the one fraction is less than the other one."""
    need_fractions(one, other)
    return one[0] * other[1] < other[0] * one[1]


def need_fractions(one, other):
    """Refuse what are no two fractions."""
    if not is_fraction(one):
        raise NoNumber("the first thing is no fraction")
    if not is_fraction(other):
        raise NoNumber("the second thing is no fraction")


def can_divide(top, bottom):
    """Tell whether both are whole numbers, the bottom from 1 on."""
    return is_whole(top) and is_whole(bottom) and bottom >= 1


def greatest_divisor(top, bottom):
    """Tell the greatest whole number that divides both, the bottom from 1 on."""
    # With a bottom above nought no remainder is below nought, whatever the top's sign.
    while bottom != 0:
        top, bottom = bottom, top % bottom
    return top
