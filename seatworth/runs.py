"""Runs: tuples with, for each period, the first one first, the number of the class that comes, or None."""

from seatworth.errors import NoRun
from seatworth.plans import need_plan
from seatworth.sales import need_sale
from seatworth.whole import is_between


def is_run(sale, thing):
    """Tell whether a thing of whatever kind is a run of the sale."""
    need_sale(sale)
    seats, periods, cases, classes = sale
    if not isinstance(thing, tuple) or len(thing) != periods:
        return False
    return all([can_come(sale, part) for part in thing])


def can_come(sale, thing):
    """Tell whether a thing of whatever kind is what can come in a period."""
    seats, periods, cases, classes = sale
    if thing is None:
        return none_share(sale) > 0
    return is_between(thing, 0, len(classes) - 1)


def none_share(sale):
    """Tell in how many cases of a period no ask comes."""
    seats, periods, cases, classes = sale
    return cases - sum([share for fare, share, size in classes])


def need_run(sale, thing):
    """Refuse what is no sale, then what is no run of it."""
    if not is_run(sale, thing):
        raise NoRun("this is no run of the sale")


def run_cases(sale, run):
    """Tell how many cases a run has."""
    need_run(sale, run)
    seats, periods, cases, classes = sale
    product = 1
    for number in run:
        product *= none_share(sale) if number is None else classes[number][1]
    return product


def money(sale, plan, run):
    """Tell the money that a plan brings in a run."""
    need_plan(sale, plan)
    need_run(sale, run)
    left, earned = sale[0], 0
    # A plan's first row is of the last period, where one is still to come.
    for row, number in zip(plan[::-1], run):
        left, fare = behind_period(sale, row, left, number)
        earned += fare
    return earned


def behind_period(sale, row, left, number):
    """Tell what is left behind a period in which this comes, and the fare that the row of a plan brings in it."""
    seats, periods, cases, classes = sale
    if number not in row[left]:
        return (left, 0)
    fare, share, size = classes[number]
    return (left - size, fare)


def shortfall(sale, plan, other):
    """Tell the least that a plan brings less what the other one brings, over all runs, and the first run of it."""
    need_plan(sale, plan)
    need_plan(sale, other)
    coming = all_that_comes(sale)
    levels = least_levels(sale, plan, other)
    seats, periods, cases, classes = sale
    lefts = (seats, seats)
    run = []
    for time in range(periods, 0, -1):
        least, at = levels[time][lefts]
        run.append(coming[at])
        lefts, gap = behind_both(sale, (plan[time - 1], other[time - 1]), lefts, coming[at])
    return (levels[periods][(seats, seats)][0], tuple(run))


def all_that_comes(sale):
    """Tell all that can come in a period, as runs compare: None behind all numbers."""
    seats, periods, cases, classes = sale
    numbers = list(range(len(classes)))
    return numbers + [None] if none_share(sale) > 0 else numbers


def least_levels(sale, plan, other):
    """Tell, for each time from 0 on, by what both plans have left, a tuple (least, at): the least that the first one
    still brings less what the other one does, and the place of the first thing to come with which it is so.
    """
    seats, periods, cases, classes = sale
    levels = [{(one, two): (0, 0) for one in range(seats + 1) for two in range(seats + 1)}]
    for rows in zip(plan, other):
        later = levels[-1]
        levels.append({lefts: least_ahead(sale, rows, lefts, later) for lefts in later})
    return levels


def least_ahead(sale, rows, lefts, later):
    """Tell what a level has ahead of a period, of both plans' rows and of the level behind it."""
    gaps = []
    for at, number in enumerate(all_that_comes(sale)):
        behind, gap = behind_both(sale, rows, lefts, number)
        gaps.append((gap + later[behind][0], at))
    # Of equal gaps the one of the least place is the least tuple, so the first run is found.
    return min(gaps)


def behind_both(sale, rows, lefts, number):
    """Tell what both plans have left behind a period, and what the first one's fare is less the other one's."""
    one, fare = behind_period(sale, rows[0], lefts[0], number)
    two, other_fare = behind_period(sale, rows[1], lefts[1], number)
    return ((one, two), fare - other_fare)
