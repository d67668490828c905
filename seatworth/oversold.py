"""Seats sold beyond those there are, up to a limit, at amends for each holder who comes and finds none."""

from seatworth.errors import NoAmends, NoLimit, NoNumber, NoShow
from seatworth.fractions import fraction
from seatworth.sales import need_sale
from seatworth.whole import is_between
from seatworth.worths import levels_from, row_level

MOST_SOLD = 16
MOST_OF = 12
MOST_AMENDS = 99


def amends_mean(sale, sold, *, show=(1, 1), amends=0):
    """Tell the mean amends of so many seats sold."""
    need_sale(sale)
    if not is_between(sold, 0, MOST_SOLD):
        raise NoNumber("no such number of seats can be sold")
    need_show(show)
    need_amends(amends)
    return sold_amends(sale, sold, show, amends)


def worth_oversold(sale, limit, *, show=(1, 1), amends=0):
    """Tell the worth of all of a limit at all periods, amends taken off."""
    need_sale(sale)
    if not is_between(limit, sale[0], MOST_SOLD):
        raise NoLimit("this is no limit of the sale")
    need_show(show)
    need_amends(amends)
    return limit_worth(sale, limit, show, amends)


def least_limit(sale, *, show=(1, 1), amends=0):
    """Tell the least limit, from seats on, whose worth is that of the greatest one."""
    need_sale(sale)
    need_show(show)
    need_amends(amends)
    most = limit_worth(sale, MOST_SOLD, show, amends)
    limit = sale[0]
    while limit_worth(sale, limit, show, amends) != most:
        limit += 1
    return limit


def need_show(thing):
    """Refuse what is no show."""
    if not isinstance(thing, tuple) or len(thing) != 2:
        raise NoShow("a show is a tuple of two numbers")
    come, of = thing
    if not is_between(of, 1, MOST_OF) or not is_between(come, 0, of):
        raise NoShow("no show has these numbers")


def need_amends(thing):
    """Refuse what are no amends."""
    if not is_between(thing, 0, MOST_AMENDS):
        raise NoAmends("these are no amends")


def limit_worth(sale, limit, show, amends):
    """Tell the worth of all of a limit, of what was looked at ahead."""
    seats, periods, cases, classes = sale
    due = [sold_amends(sale, limit - left, show, amends) for left in range(limit + 1)]
    last = row_level([(-top, bottom) for top, bottom in due])
    tops, bottom = levels_from(cases, classes, last, periods)[periods]
    return fraction(tops[limit], bottom)


def sold_amends(sale, sold, show, amends):
    """Tell the mean amends of so many seats sold, of what was looked at ahead."""
    seats, periods, cases, classes = sale
    ways = coming_ways(sold, show)
    beyond = sum([many * max(0, come - seats) for come, many in enumerate(ways)])
    return fraction(amends * beyond, sum(ways))


def coming_ways(sold, show):
    """Tell, for each number of holders who come, from none to all, in how many cases just so many do."""
    come, of = show
    ways = [1]
    while len(ways) <= sold:
        # One holder more: with it come as many as without it where it stays away, and one more where it comes.
        away = [many * (of - come) for many in ways] + [0]
        there = [0] + [many * come for many in ways]
        ways = [one + other for one, other in zip(away, there)]
    return ways
