"""What the document tells, reckoned straight by its words with Python's own fractions: the program is held against it."""

import functools
import itertools
import math
import re
from fractions import Fraction


def pair(number):
    """Python's own fraction as the program tells it."""
    return (number.numerator, number.denominator)


def exact(told):
    """What the program tells as Python's own fraction."""
    return Fraction(told[0], told[1])


def due_number(sale, later, left):
    """Point [20]: the mean over all cases of a period, with these numbers of the time less by one."""
    seats, periods, cases, classes = sale
    brought = []
    for fare, share, size in classes:
        best = later[left]
        if size <= left and fare + later[left - size] > best:
            best = fare + later[left - size]
        brought += [best] * share
    brought += [later[left]] * (cases - len(brought))
    return sum(brought, Fraction(0)) / cases


def plain_worths(sale):
    """Point [20]: all worths, by time and number left."""
    seats, periods, cases, classes = sale
    rows = [[Fraction(0)] * (seats + 1)]
    for time in range(periods):
        rows.append([due_number(sale, rows[-1], left) for left in range(seats + 1)])
    return rows


def plain_due(sale, rows):
    """Point [21]: the due numbers of a table."""
    seats, periods, cases, classes = sale
    due = [[Fraction(0)] * (seats + 1)]
    for later in rows[:-1]:
        due.append([due_number(sale, later, left) for left in range(seats + 1)])
    return due


def plain_bounds(sale, rows):
    """Point [21]: a table's bound as an over table and as an under table, None where it is none."""
    places = [both for row, due in zip(rows, plain_due(sale, rows)) for both in zip(row, due)]
    over = all(number >= due for number, due in places)
    under = all(number <= due for number, due in places)
    bound = pair(rows[-1][-1])
    return (bound if over else None, bound if under else None)


def plain_opened(sale, number, time):
    """Point [30]: the numbers left at which a class is open."""
    seats, periods, cases, classes = sale
    fare, share, size = classes[number]
    later = plain_worths(sale)[time - 1]
    return tuple(left for left in range(seats + 1) if size <= left and fare + later[left - size] >= later[left])


def most_of_all_deciders(sale):
    """The most in the mean over each way to decide, by period, number left and class, gone through one by one."""
    seats, periods, cases, classes = sale
    spots = list(itertools.product(range(periods), range(seats + 1), range(len(classes))))
    most = Fraction(0)
    for decided in itertools.product((False, True), repeat=len(spots)):
        most = max(most, mean_money(sale, dict(zip(spots, decided))))
    return most


def mean_money(sale, sells):
    """What one way to decide brings in the mean, over each run of asks."""
    seats, periods, cases, classes = sale
    comes = [number for number, kind in enumerate(classes) for k in range(kind[1])]
    comes += [None] * (cases - len(comes))
    total = 0
    for run in itertools.product(comes, repeat=periods):
        left = seats
        for period, number in enumerate(run):
            if number is not None and classes[number][2] <= left and sells[period, left, number]:
                total += classes[number][0]
                left -= classes[number][2]
    return Fraction(total, cases ** periods)


def all_plans(sale):
    """Point [40]: each plan of a sale, gone through one by one."""
    seats, periods, cases, classes = sale
    spots = []
    for left in range(seats + 1):
        let = [number for number, kind in enumerate(classes) if kind[2] <= left]
        spots.append([one for many in range(len(let) + 1) for one in itertools.combinations(let, many)])
    return itertools.product(itertools.product(*spots), repeat=periods)


def drawn_plan(draw, sale, chance):
    """A plan that sells what can be sold, each by this chance."""
    seats, periods, cases, classes = sale
    return tuple(
        tuple(
            tuple(number for number, kind in enumerate(classes) if kind[2] <= left and draw.random() < chance)
            for left in range(seats + 1)
        )
        for time in range(periods)
    )


def plain_best_plan(sale):
    """Point [40]: the plan that sells just where a class is open."""
    seats, periods, cases, classes = sale
    plan = []
    for time in range(1, periods + 1):
        lefts = [plain_opened(sale, number, time) for number in range(len(classes))]
        plan.append(tuple(
            tuple(number for number in range(len(classes)) if left in lefts[number]) for left in range(seats + 1)
        ))
    return tuple(plan)


def plain_plan_worth(sale, plan):
    """Point [40]: the mean money, by how likely each number left is, from the first period on."""
    seats, periods, cases, classes = sale
    likely = {seats: Fraction(1)}
    mean = Fraction(0)
    for time in range(periods, 0, -1):
        behind = dict.fromkeys(range(seats + 1), Fraction(0))
        for left, chance in likely.items():
            kept = Fraction(1)
            for number in plan[time - 1][left]:
                fare, share, size = classes[number]
                kept -= Fraction(share, cases)
                behind[left - size] += chance * share / cases
                mean += chance * share * fare / cases
            behind[left] += chance * kept
        likely = behind
    return mean


def what_comes(sale):
    """Point [41]: what can come in a period, with its cases, None behind all numbers."""
    seats, periods, cases, classes = sale
    comes = {number: kind[1] for number, kind in enumerate(classes)}
    if sum(comes.values()) < cases:
        comes[None] = cases - sum(comes.values())
    return comes


def all_runs(sale):
    """Point [41]: each run, in the order in which tuples compare, with None behind all numbers."""
    return itertools.product(what_comes(sale), repeat=sale[1])


def plain_run_cases(sale, run):
    """Point [41]: all shares multiplied."""
    comes = what_comes(sale)
    return math.prod(comes[number] for number in run)


def plain_money(sale, plan, run):
    """Point [41]: the money that a plan brings in a run."""
    seats, periods, cases, classes = sale
    left, earned = seats, 0
    for period, number in enumerate(run):
        to_come = periods - period
        if number in plan[to_come - 1][left]:
            earned += classes[number][0]
            left -= classes[number][2]
    return earned


def plain_shortfall(sale, plan, other):
    """Point [42]: all runs gone through one by one; min tells the first of equal ones."""
    return min(
        ((plain_money(sale, plan, run) - plain_money(sale, other, run), run) for run in all_runs(sale)),
        key=lambda both: both[0],
    )


def plain_amends(seats, sold, show, amends):
    """Point [50]: the mean amends of so many sold."""
    chance = Fraction(*show)
    return sum(
        (
            math.comb(sold, come) * chance ** come * (1 - chance) ** (sold - come) * max(0, come - seats) * amends
            for come in range(sold + 1)
        ),
        Fraction(0),
    )


def amends_one_by_one(seats, sold, show, amends):
    """Point [50]: the mean amends over each case of each holder, gone through one by one."""
    come, of = show
    paid = [max(0, sum(case < come for case in one) - seats) * amends for one in itertools.product(range(of), repeat=sold)]
    return Fraction(sum(paid), len(paid))


def plain_oversold(sale, limit, show, amends):
    """Point [50]: the most in the mean, by how many are sold so far."""
    seats, periods, cases, classes = sale

    @functools.cache
    def most(time, sold):
        if time == 0:
            return -plain_amends(seats, sold, show, amends)
        kept = most(time - 1, sold)
        mean = Fraction(0)
        for fare, share, size in classes:
            if sold + size <= limit:
                mean += share * max(Fraction(0), fare + most(time - 1, sold + size) - kept)
        return kept + mean / cases

    return most(periods, 0)


def plain_net_worth(net):
    """Point [60]: the most in the mean, by what is left of each leg."""
    legs, periods, cases, products = net

    @functools.cache
    def most(time, left):
        if time == 0:
            return Fraction(0)
        kept = most(time - 1, left)
        brought = [kept] * (cases - sum(product[1] for product in products))
        for fare, share, some in products:
            best = kept
            if all(left[leg] for leg in some):
                best = max(best, fare + most(time - 1, taken(left, some)))
            brought += [best] * share
        return sum(brought) / cases

    return most(periods, legs)


def taken(left, some):
    """What is left of each leg where one seat of each of these was taken."""
    return tuple(many - (leg in some) for leg, many in enumerate(left))


def plain_priced_worth(net, prices):
    """Point [62]: the mean money of selling by prices, by how likely each thing left is, from the first period on."""
    legs, periods, cases, products = net
    likely, mean = {legs: Fraction(1)}, Fraction(0)
    for period in range(periods):
        behind = {}
        for left, chance in likely.items():
            kept = chance
            for fare, share, some in products:
                if all(left[leg] for leg in some) and fare >= sum(exact(prices[leg]) for leg in some):
                    part = chance * share / cases
                    kept -= part
                    mean += part * fare
                    behind[taken(left, some)] = behind.get(taken(left, some), 0) + part
            behind[left] = behind.get(left, 0) + kept
        likely = behind
    return mean


def plain_price_bound(net, prices):
    """Point [61]: the bound of prices, which are Python's own fractions."""
    legs, periods, cases, products = net
    total = sum((seats * price for seats, price in zip(legs, prices)), Fraction(0))
    for fare, share, some in products:
        above = fare - sum(prices[leg] for leg in some)
        if above > 0:
            total += Fraction(periods * share, cases) * above
    return total


def plain_flow_sum(net, amounts):
    """Point [61]: the sum of amounts, which are Python's own fractions; None where they are no amounts."""
    legs, periods, cases, products = net
    for amount, (fare, share, some) in zip(amounts, products):
        if amount < 0 or amount > Fraction(periods * share, cases):
            return None
    for leg, seats in enumerate(legs):
        if sum(amount for amount, product in zip(amounts, products) if leg in product[2]) > seats:
            return None
    return sum((product[0] * amount for amount, product in zip(amounts, products)), Fraction(0))


def plain_least_bound(net):
    """Point [61]: the least bound, over each corner: prices that solve as many as there are legs of these alike: a leg's
    price is nought, a product's fare is just its legs' prices together. A bound is nowhere less than at its corners.
    """
    legs, periods, cases, products = net
    planes = [([int(leg == other) for other in range(len(legs))], 0) for leg in range(len(legs))]
    planes += [([int(leg in some) for leg in range(len(legs))], fare) for fare, share, some in products]
    bounds = []
    for some in itertools.combinations(planes, len(legs)):
        corner = solved([row for row, right in some], [right for row, right in some])
        if corner is not None and min(corner) >= 0:
            bounds.append(plain_price_bound(net, corner))
    return min(bounds)


def solved(rows, right):
    """What solves alike rows, each times it being what is right of it; None where not just one thing does."""
    rows = [[Fraction(number) for number in row] + [Fraction(one)] for row, one in zip(rows, right)]
    for at in range(len(rows)):
        found = next((other for other in range(at, len(rows)) if rows[other][at]), None)
        if found is None:
            return None
        rows[at], rows[found] = rows[found], rows[at]
        rows[at] = [number / rows[at][at] for number in rows[at]]
        for other in range(len(rows)):
            if other != at:
                rows[other] = [one - rows[other][at] * two for one, two in zip(rows[other], rows[at])]
    return [row[-1] for row in rows]


@functools.cache
def kept_worths(sale):
    """All worths of a sale, kept: they are not changed."""
    return plain_worths(sale)


class PlainCounter:
    """Point [70]: a counter that keeps nothing but what came, and goes through it all again for each answer."""

    def __init__(self, sale):
        self.sale, self.past = sale, []

    def is_sold(self, number, time, left):
        """Point [30]: whether an ask of the class is open then."""
        fare, share, size = self.sale[3][number]
        later = kept_worths(self.sale)[time - 1]
        return size <= left and fare + later[left - size] >= later[left]

    def stand(self):
        """What is left, what is to come, what is earned."""
        seats, periods, cases, classes = self.sale
        left, time, earned = seats, periods, 0
        for number in self.past:
            if number is not None and self.is_sold(number, time, left):
                left, earned = left - classes[number][2], earned + classes[number][0]
            time -= 1
        return left, time, earned

    def worth_now(self):
        """What is earned and the worth, together."""
        left, time, earned = self.stand()
        return earned + kept_worths(self.sale)[time][left]


NUMBER = "(?:0|[1-9][0-9]*)"


def plain_sale_read(text):
    """Point [80]: the sale that a text writes, or the number of the first word that is none there."""
    words = text.split(" ")
    numbers, kinds = [], []
    for at, word in enumerate(words):
        if at < 3:
            least, most = ((0, 12), (0, 12), (1, 24))[at]
            if not re.fullmatch(NUMBER, word) or not least <= int(word) <= most:
                return at
            numbers.append(int(word))
        else:
            if at == 7 or not re.fullmatch(f"{NUMBER}/{NUMBER}/{NUMBER}", word):
                return at
            fare, share, size = map(int, word.split("/"))
            if not (1 <= fare <= 99 and 1 <= share and 1 <= size <= 4):
                return at
            kinds.append((fare, share, size))
            if sum(kind[1] for kind in kinds) > numbers[2]:
                return at
    return tuple(numbers) + (tuple(kinds),) if kinds else len(words)


def plain_fraction_text(number):
    """Point [80]: Python's own fraction as a text, with a bottom of 1 too."""
    return f"{number.numerator}/{number.denominator}"


class PlainDesk:
    """Point [81]: a desk; refusals are told as (class, number of the word) in the place of an answer."""

    def __init__(self):
        self.counter = PlainCounter((0, 0, 1, ((1, 1, 1),)))

    def say(self, line):
        if type(line) is not str:
            return ("NoLine", None)
        if line.startswith("sale "):
            read = plain_sale_read(line[5:])
            if type(read) is int:
                return ("NoText", read)
            self.counter = PlainCounter(read)
            return "ok"
        if re.fullmatch(f"(ask|open) {NUMBER}", line) and len(line.split(" ")[1]) <= 30:
            return self.numbered(*line.split(" "))
        if line in ("none", "undo"):
            return self.deed(line)
        left, time, earned = self.counter.stand()
        answers = {
            "left": f"{left}", "time": f"{time}", "earned": f"{earned}", "worth": plain_fraction_text(self.counter.worth_now()),
            "came": " ".join("-" if number is None else f"{number}" for number in self.counter.past) or "nothing",
        }
        return answers.get(line, ("NoLine", None))

    def deed(self, line):
        left, time, earned = self.counter.stand()
        if line == "none":
            if time == 0:
                return ("Over", None)
            self.counter.past.append(None)
        else:
            if not self.counter.past:
                return ("Nothing", None)
            del self.counter.past[-1]
        return "ok"

    def numbered(self, word, figures):
        number, (left, time, earned) = int(figures), self.counter.stand()
        if number >= len(self.counter.sale[3]):
            return ("NoClass", None)
        if time == 0:
            return ("Over" if word == "ask" else "NoTime", None)
        if word == "ask":
            sold = self.counter.is_sold(number, time, left)
            self.counter.past.append(number)
            return "sold" if sold else "kept"
        lefts = [many for many in range(self.counter.sale[0] + 1) if self.counter.is_sold(number, time, many)]
        return " ".join(map(str, lefts)) or "nothing"
