"""What the seats that are left are worth, by time and number left.

A level is a tuple (tops, bottom): of one time, for each number left, what is had in the mean from there on, as tops
over one bottom. So all is reckoned in whole numbers, and brought to least terms but once.
"""

from seatworth.fractions import fraction
from seatworth.sales import need_left, need_sale, need_time


def worth(sale, time, left):
    """Tell the worth at a time, of so many seats left."""
    need_sale(sale)
    need_time(sale, time)
    need_left(sale, left)
    tops, bottom = worth_levels(sale, time)[time]
    return fraction(tops[left], bottom)


def worths(sale):
    """Tell the table of all worths."""
    need_sale(sale)
    seats, periods, cases, classes = sale
    return tuple([level_fractions(level) for level in worth_levels(sale, periods)])


def worth_levels(sale, time):
    """Tell the levels of the worths at all times, up to this one."""
    seats, periods, cases, classes = sale
    return levels_from(cases, classes, nought_level(seats), time)


def levels_from(cases, classes, last, time):
    """Tell the levels at all times, up to this one, of the level behind all periods."""
    levels = [last]
    while len(levels) <= time:
        levels.append(level_before(cases, classes, levels[-1]))
    return levels


def nought_level(seats):
    """Tell the level of a time at which nothing is had, whatever is left."""
    return ([0] * (seats + 1), 1)


def level_before(cases, classes, later):
    """Tell the level of the time ahead of a period, of the level behind it, where each ask is decided at its best."""
    tops, bottom = later
    means = []
    for left, top in enumerate(tops):
        # Each case has what is had where nothing is sold; a sale adds to it only what it brings more.
        means.append(cases * top + sum([best_gain(kind, left, later) for kind in classes]))
    return (means, cases * bottom)


def best_gain(kind, left, later):
    """Tell what the asks of a class add at their best in all cases of a period, over the bottom of the level behind."""
    fare, share, size = kind
    return share * max(0, sold_gain(kind, left, later)) if can_sell(kind, left) else 0


def can_sell(kind, left):
    """Tell whether an ask of a class can be sold, of so many seats left."""
    fare, share, size = kind
    return size <= left


def sold_gain(kind, left, later):
    """Tell by how much more is had, over the bottom of the level behind, where an ask that can be sold is sold."""
    fare, share, size = kind
    tops, bottom = later
    return fare * bottom + tops[left - size] - tops[left]


def level_fractions(level):
    """Tell what a level tells as a tuple of fractions."""
    tops, bottom = level
    return tuple([fraction(top, bottom) for top in tops])


def row_level(row):
    """Tell the level that tells the fractions of a row."""
    bottom = 1
    for number in row:
        # What is left of its bottom in least terms is what the common bottom still lacks.
        bottom *= fraction(bottom, number[1])[1]
    return ([number[0] * (bottom // number[1]) for number in row], bottom)
