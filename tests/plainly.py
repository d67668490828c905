"""What the document tells, reckoned straight by its words with Python's own fractions: the program is held against it."""

import functools
import itertools
import math
from fractions import Fraction


def pair(number):
    """Python's own fraction as the program tells it."""
    return (number.numerator, number.denominator)


def exact(told):
    """What the program tells as Python's own fraction."""
    return Fraction(told[0], told[1])


def due_number(sale, later, left):
    """Point [20]: the mean over all cases of a period, with these numbers of the time less by one."""
    seats, periods, cases, classes = sale
    brought = []
    for fare, share, size in classes:
        best = later[left]
        if size <= left and fare + later[left - size] > best:
            best = fare + later[left - size]
        brought += [best] * share
    brought += [later[left]] * (cases - len(brought))
    return sum(brought, Fraction(0)) / cases


def plain_worths(sale):
    """Point [20]: all worths, by time and number left."""
    seats, periods, cases, classes = sale
    rows = [[Fraction(0)] * (seats + 1)]
    for time in range(periods):
        rows.append([due_number(sale, rows[-1], left) for left in range(seats + 1)])
    return rows


def plain_due(sale, rows):
    """Point [21]: the due numbers of a table."""
    seats, periods, cases, classes = sale
    due = [[Fraction(0)] * (seats + 1)]
    for later in rows[:-1]:
        due.append([due_number(sale, later, left) for left in range(seats + 1)])
    return due


def plain_bounds(sale, rows):
    """Point [21]: a table's bound as an over table and as an under table, None where it is none."""
    places = [both for row, due in zip(rows, plain_due(sale, rows)) for both in zip(row, due)]
    over = all(number >= due for number, due in places)
    under = all(number <= due for number, due in places)
    bound = pair(rows[-1][-1])
    return (bound if over else None, bound if under else None)


def plain_opened(sale, number, time):
    """Point [30]: the numbers left at which a class is open."""
    seats, periods, cases, classes = sale
    fare, share, size = classes[number]
    later = plain_worths(sale)[time - 1]
    return tuple(left for left in range(seats + 1) if size <= left and fare + later[left - size] >= later[left])


def most_of_all_deciders(sale):
    """The most in the mean over each way to decide, by period, number left and class, gone through one by one."""
    seats, periods, cases, classes = sale
    spots = list(itertools.product(range(periods), range(seats + 1), range(len(classes))))
    most = Fraction(0)
    for decided in itertools.product((False, True), repeat=len(spots)):
        most = max(most, mean_money(sale, dict(zip(spots, decided))))
    return most


def mean_money(sale, sells):
    """What one way to decide brings in the mean, over each run of asks."""
    seats, periods, cases, classes = sale
    comes = [number for number, kind in enumerate(classes) for k in range(kind[1])]
    comes += [None] * (cases - len(comes))
    total = 0
    for run in itertools.product(comes, repeat=periods):
        left = seats
        for period, number in enumerate(run):
            if number is not None and classes[number][2] <= left and sells[period, left, number]:
                total += classes[number][0]
                left -= classes[number][2]
    return Fraction(total, cases ** periods)


def all_plans(sale):
    """Point [40]: each plan of a sale, gone through one by one."""
    seats, periods, cases, classes = sale
    spots = []
    for left in range(seats + 1):
        let = [number for number, kind in enumerate(classes) if kind[2] <= left]
        spots.append([one for many in range(len(let) + 1) for one in itertools.combinations(let, many)])
    return itertools.product(itertools.product(*spots), repeat=periods)


def drawn_plan(draw, sale, chance):
    """A plan that sells what can be sold, each by this chance."""
    seats, periods, cases, classes = sale
    return tuple(
        tuple(
            tuple(number for number, kind in enumerate(classes) if kind[2] <= left and draw.random() < chance)
            for left in range(seats + 1)
        )
        for time in range(periods)
    )


def plain_best_plan(sale):
    """Point [40]: the plan that sells just where a class is open."""
    seats, periods, cases, classes = sale
    plan = []
    for time in range(1, periods + 1):
        lefts = [plain_opened(sale, number, time) for number in range(len(classes))]
        plan.append(tuple(
            tuple(number for number in range(len(classes)) if left in lefts[number]) for left in range(seats + 1)
        ))
    return tuple(plan)


def plain_plan_worth(sale, plan):
    """Point [40]: the mean money, by how likely each number left is, from the first period on."""
    seats, periods, cases, classes = sale
    likely = {seats: Fraction(1)}
    mean = Fraction(0)
    for time in range(periods, 0, -1):
        behind = dict.fromkeys(range(seats + 1), Fraction(0))
        for left, chance in likely.items():
            kept = Fraction(1)
            for number in plan[time - 1][left]:
                fare, share, size = classes[number]
                kept -= Fraction(share, cases)
                behind[left - size] += chance * share / cases
                mean += chance * share * fare / cases
            behind[left] += chance * kept
        likely = behind
    return mean


def what_comes(sale):
    """Point [41]: what can come in a period, with its cases, None behind all numbers."""
    seats, periods, cases, classes = sale
    comes = {number: kind[1] for number, kind in enumerate(classes)}
    if sum(comes.values()) < cases:
        comes[None] = cases - sum(comes.values())
    return comes


def all_runs(sale):
    """Point [41]: each run, in the order in which tuples compare, with None behind all numbers."""
    return itertools.product(what_comes(sale), repeat=sale[1])


def plain_run_cases(sale, run):
    """Point [41]: all shares multiplied."""
    comes = what_comes(sale)
    return math.prod(comes[number] for number in run)


def plain_money(sale, plan, run):
    """Point [41]: the money that a plan brings in a run."""
    seats, periods, cases, classes = sale
    left, earned = seats, 0
    for period, number in enumerate(run):
        to_come = periods - period
        if number in plan[to_come - 1][left]:
            earned += classes[number][0]
            left -= classes[number][2]
    return earned


def plain_shortfall(sale, plan, other):
    """Point [42]: all runs gone through one by one; min tells the first of equal ones."""
    return min(
        ((plain_money(sale, plan, run) - plain_money(sale, other, run), run) for run in all_runs(sale)),
        key=lambda both: both[0],
    )


def plain_amends(seats, sold, show, amends):
    """Point [50]: the mean amends of so many sold."""
    chance = Fraction(*show)
    return sum(
        (
            math.comb(sold, come) * chance ** come * (1 - chance) ** (sold - come) * max(0, come - seats) * amends
            for come in range(sold + 1)
        ),
        Fraction(0),
    )


def amends_one_by_one(seats, sold, show, amends):
    """Point [50]: the mean amends over each case of each holder, gone through one by one."""
    come, of = show
    paid = [max(0, sum(case < come for case in one) - seats) * amends for one in itertools.product(range(of), repeat=sold)]
    return Fraction(sum(paid), len(paid))


def plain_oversold(sale, limit, show, amends):
    """Point [50]: the most in the mean, by how many are sold so far."""
    seats, periods, cases, classes = sale

    @functools.cache
    def most(time, sold):
        if time == 0:
            return -plain_amends(seats, sold, show, amends)
        kept = most(time - 1, sold)
        mean = Fraction(0)
        for fare, share, size in classes:
            if sold + size <= limit:
                mean += share * max(Fraction(0), fare + most(time - 1, sold + size) - kept)
        return kept + mean / cases

    return most(periods, 0)


def plain_net_worth(net):
    """Point [60]: the most in the mean, by what is left of each leg."""
    legs, periods, cases, products = net

    @functools.cache
    def most(time, left):
        if time == 0:
            return Fraction(0)
        kept = most(time - 1, left)
        brought = [kept] * (cases - sum(product[1] for product in products))
        for fare, share, some in products:
            best = kept
            if all(left[leg] for leg in some):
                best = max(best, fare + most(time - 1, taken(left, some)))
            brought += [best] * share
        return sum(brought) / cases

    return most(periods, legs)


def taken(left, some):
    """What is left of each leg where one seat of each of these was taken."""
    return tuple(many - (leg in some) for leg, many in enumerate(left))


def plain_priced_worth(net, prices):
    """Point [62]: the mean money of selling by prices, by how likely each thing left is, from the first period on."""
    legs, periods, cases, products = net
    likely, mean = {legs: Fraction(1)}, Fraction(0)
    for period in range(periods):
        behind = {}
        for left, chance in likely.items():
            kept = chance
            for fare, share, some in products:
                if all(left[leg] for leg in some) and fare >= sum(exact(prices[leg]) for leg in some):
                    part = chance * share / cases
                    kept -= part
                    mean += part * fare
                    behind[taken(left, some)] = behind.get(taken(left, some), 0) + part
            behind[left] = behind.get(left, 0) + kept
        likely = behind
    return mean
