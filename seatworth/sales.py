"""Sales: tuples (seats, periods, cases, classes), each class a tuple (fare, share, size)."""

from seatworth.errors import NoClass, NoLeft, NoSale, NoTime
from seatworth.whole import is_between, is_whole

MOST_SEATS = 12
MOST_PERIODS = 12
MOST_CASES = 24
MOST_CLASSES = 4
MOST_FARE = 99
MOST_SIZE = 4


def is_sale(thing):
    """Tell whether a thing of whatever kind is a sale."""
    if not isinstance(thing, tuple) or len(thing) != 4:
        return False
    seats, periods, cases, classes = thing
    return (
        is_between(seats, 0, MOST_SEATS)
        and is_between(periods, 0, MOST_PERIODS)
        and is_between(cases, 1, MOST_CASES)
        and are_classes(classes, cases)
    )


def are_classes(thing, cases):
    """Tell whether a thing of whatever kind is all classes of a sale with so many cases."""
    if not isinstance(thing, tuple) or not 1 <= len(thing) <= MOST_CLASSES:
        return False
    if not all([is_class(part) for part in thing]):
        return False
    return sum([share for fare, share, size in thing]) <= cases


def is_class(thing):
    """Tell whether a thing of whatever kind is a class, whatever the other shares are."""
    if not isinstance(thing, tuple) or len(thing) != 3:
        return False
    fare, share, size = thing
    return is_between(fare, 1, MOST_FARE) and is_whole(share) and share >= 1 and is_between(size, 1, MOST_SIZE)


def need_sale(thing):
    """Refuse what is no sale."""
    if not is_sale(thing):
        raise NoSale("this is no sale")


def need_class(sale, number):
    """Refuse what is no number of one of the sale's classes."""
    seats, periods, cases, classes = sale
    if not is_between(number, 0, len(classes) - 1):
        raise NoClass("the sale has no class of this number")


def need_time(sale, time, least=0):
    """Refuse what is no time of the sale, from the least one on."""
    seats, periods, cases, classes = sale
    if not is_between(time, least, periods):
        raise NoTime("the sale has no such time here")


def need_left(sale, left, least=0):
    """Refuse what is no number of the sale's seats left, from the least one on."""
    seats, periods, cases, classes = sale
    if not is_between(left, least, seats):
        raise NoLeft("the sale has no such number of seats left here")
