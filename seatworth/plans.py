"""Plans: tuples with, for each time from 1 on and each number left from 0 on, the classes whose asks are sold then."""

from seatworth.errors import NoPlan
from seatworth.fractions import fraction
from seatworth.marks import is_opened
from seatworth.sales import need_sale
from seatworth.whole import is_rising
from seatworth.worths import can_sell, nought_level, sold_gain, worth_levels


def is_plan(sale, thing):
    """Tell whether a thing of whatever kind is a plan of the sale."""
    need_sale(sale)
    seats, periods, cases, classes = sale
    if not isinstance(thing, tuple) or len(thing) != periods:
        return False
    return all([is_plan_row(sale, part) for part in thing])


def is_plan_row(sale, thing):
    """Tell whether a thing of whatever kind is what a plan of the sale has at one time."""
    seats, periods, cases, classes = sale
    if not isinstance(thing, tuple) or len(thing) != seats + 1:
        return False
    return all([are_sold(classes, left, part) for left, part in enumerate(thing)])


def are_sold(classes, left, thing):
    """Tell whether a thing of whatever kind is a rising tuple of classes that can be sold, of so many seats left."""
    if not is_rising(thing, len(classes) - 1):
        return False
    return all([can_sell(classes[number], left) for number in thing])


def need_plan(sale, thing):
    """Refuse what is no sale, then what is no plan of it."""
    if not is_plan(sale, thing):
        raise NoPlan("this is no plan of the sale")


def plan_worth(sale, plan):
    """Tell the mean money that a plan brings."""
    need_plan(sale, plan)
    seats, periods, cases, classes = sale
    level = nought_level(seats)
    for row in plan:
        level = planned_level(sale, row, level)
    tops, bottom = level
    return fraction(tops[seats], bottom)


def planned_level(sale, row, later):
    """Tell the level of the time ahead of a period, of the level behind it, where just the row's classes are sold."""
    seats, periods, cases, classes = sale
    tops, bottom = later
    means = [cases * top + row_gain(classes, row[left], left, later) for left, top in enumerate(tops)]
    return (means, cases * bottom)


def row_gain(classes, numbers, left, later):
    """Tell what selling these classes adds in all cases of a period, over the bottom of the level behind."""
    return sum([classes[number][1] * sold_gain(classes[number], left, later) for number in numbers])


def best_plan(sale):
    """Tell the plan that sells just where a class is open."""
    need_sale(sale)
    seats, periods, cases, classes = sale
    return tuple([best_row(sale, later) for later in worth_levels(sale, periods)[:periods]])


def best_row(sale, later):
    """Tell, for each number left, the classes that are open, of the level of the worths at the time less by one."""
    seats, periods, cases, classes = sale
    return tuple([opened_numbers(classes, left, later) for left in range(seats + 1)])


def opened_numbers(classes, left, later):
    """Tell the classes that are open at a number left, of the level of the worths at the time less by one."""
    return tuple([number for number, kind in enumerate(classes) if is_opened(kind, left, later)])
