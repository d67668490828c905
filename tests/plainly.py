"""What the document tells, reckoned straight by its words with Python's own fractions: the program is held against it."""

import itertools
from fractions import Fraction


def pair(number):
    """Python's own fraction as the program tells it."""
    return (number.numerator, number.denominator)


def exact(told):
    """What the program tells as Python's own fraction."""
    return Fraction(told[0], told[1])


def due_number(sale, later, left):
    """Point [20]: the mean over all cases of a period, with these numbers of the time less by one."""
    seats, periods, cases, classes = sale
    brought = []
    for fare, share, size in classes:
        best = later[left]
        if size <= left and fare + later[left - size] > best:
            best = fare + later[left - size]
        brought += [best] * share
    brought += [later[left]] * (cases - len(brought))
    return sum(brought, Fraction(0)) / cases


def plain_worths(sale):
    """Point [20]: all worths, by time and number left."""
    seats, periods, cases, classes = sale
    rows = [[Fraction(0)] * (seats + 1)]
    for time in range(periods):
        rows.append([due_number(sale, rows[-1], left) for left in range(seats + 1)])
    return rows


def plain_due(sale, rows):
    """Point [21]: the due numbers of a table."""
    seats, periods, cases, classes = sale
    due = [[Fraction(0)] * (seats + 1)]
    for later in rows[:-1]:
        due.append([due_number(sale, later, left) for left in range(seats + 1)])
    return due


def plain_bounds(sale, rows):
    """Point [21]: a table's bound as an over table and as an under table, None where it is none."""
    places = [both for row, due in zip(rows, plain_due(sale, rows)) for both in zip(row, due)]
    over = all(number >= due for number, due in places)
    under = all(number <= due for number, due in places)
    bound = pair(rows[-1][-1])
    return (bound if over else None, bound if under else None)


def plain_opened(sale, number, time):
    """Point [30]: the numbers left at which a class is open."""
    seats, periods, cases, classes = sale
    fare, share, size = classes[number]
    later = plain_worths(sale)[time - 1]
    return tuple(left for left in range(seats + 1) if size <= left and fare + later[left - size] >= later[left])


def most_of_all_deciders(sale):
    """The most in the mean over each way to decide, by period, number left and class, gone through one by one."""
    seats, periods, cases, classes = sale
    spots = list(itertools.product(range(periods), range(seats + 1), range(len(classes))))
    most = Fraction(0)
    for decided in itertools.product((False, True), repeat=len(spots)):
        most = max(most, mean_money(sale, dict(zip(spots, decided))))
    return most


def mean_money(sale, sells):
    """What one way to decide brings in the mean, over each run of asks."""
    seats, periods, cases, classes = sale
    comes = [number for number, kind in enumerate(classes) for k in range(kind[1])]
    comes += [None] * (cases - len(comes))
    total = 0
    for run in itertools.product(comes, repeat=periods):
        left = seats
        for period, number in enumerate(run):
            if number is not None and classes[number][2] <= left and sells[period, left, number]:
                total += classes[number][0]
                left -= classes[number][2]
    return Fraction(total, cases ** periods)
