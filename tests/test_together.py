"""Tests of what holds over the whole program: points [1] to [5], the interface, and what several points tell alike."""

import importlib
import inspect
import itertools
import random
import unittest

from plainly import all_runs, drawn_plan, what_comes
from seatworth import errors
from seatworth.counter import Counter
from seatworth.desk import Desk
from seatworth.fractions import is_fraction, is_less
from seatworth.marks import mark, opened, seat_worth
from seatworth.nets import net_worth, priced_worth
from seatworth.oversold import worth_oversold
from seatworth.plans import best_plan, plan_worth
from seatworth.prices import best_flow, flow_sum, least_bound, price_bound
from seatworth.runs import money, run_cases, shortfall
from seatworth.tables import over_bound, under_bound
from seatworth.texts import fraction_text, sale_read, sale_text
from seatworth.worths import worth, worths
from things import GOOD, GOOD_NET, OTHER_KINDS, SALES, Cases, drawn_sales

SMALL = ((2, 3, 7, ((10, 1, 1), (30, 2, 2))), (3, 4, 5, ((10, 2, 1), (7, 1, 2), (9, 2, 1))), (2, 5, 3, ((50, 1, 2), (20, 1, 1))))
PLAN = best_plan(GOOD)
RUN = (0, 1, None, 0)
PRICES = ((1, 2), (30, 1))
BY_NAME = ("show", "amends")

# Each function by its module and name: its arguments by their names, with what is right, and with the refusal of what is none,
# None where things of whatever kind may stand; the order is that of the interface.
SALE = ("sale", GOOD, "NoSale")
NET = ("net", GOOD_NET, "NoNet")
THING = ("thing", (), None)
SHOW = ("show", (1, 2), "NoShow")
AMENDS = ("amends", 7, "NoAmends")
FUNCTIONS = {
    "fractions.is_fraction": (THING,),
    "fractions.fraction": (("top", 6, "NoNumber"), ("bottom", 4, "NoNumber")),
    "fractions.added": (("one", (1, 2), "NoNumber"), ("other", (1, 3), "NoNumber")),
    "fractions.is_less": (("one", (1, 2), "NoNumber"), ("other", (1, 3), "NoNumber")),
    "sales.is_sale": (THING,),
    "worths.worth": (SALE, ("time", 2, "NoTime"), ("left", 3, "NoLeft")),
    "worths.worths": (SALE,),
    "tables.over_bound": (SALE, THING),
    "tables.under_bound": (SALE, THING),
    "marks.opened": (SALE, ("number", 1, "NoClass"), ("time", 2, "NoTime")),
    "marks.seat_worth": (SALE, ("time", 2, "NoTime"), ("left", 3, "NoLeft")),
    "marks.mark": (("sale", (3, 4, 10, ((40, 3, 1), (25, 3, 1))), "NoSale"), ("number", 1, "NoClass"), ("time", 2, "NoTime")),
    "plans.is_plan": (SALE, THING),
    "plans.plan_worth": (SALE, ("plan", PLAN, "NoPlan")),
    "plans.best_plan": (SALE,),
    "runs.is_run": (SALE, THING),
    "runs.run_cases": (SALE, ("run", RUN, "NoRun")),
    "runs.money": (SALE, ("plan", PLAN, "NoPlan"), ("run", RUN, "NoRun")),
    "runs.shortfall": (SALE, ("plan", PLAN, "NoPlan"), ("other", PLAN, "NoPlan")),
    "oversold.amends_mean": (SALE, ("sold", 9, "NoNumber"), SHOW, AMENDS),
    "oversold.worth_oversold": (SALE, ("limit", 9, "NoLimit"), SHOW, AMENDS),
    "oversold.least_limit": (SALE, SHOW, AMENDS),
    "nets.is_net": (THING,),
    "nets.net_worth": (NET,),
    "nets.priced_worth": (NET, ("prices", PRICES, "NoPrices")),
    "prices.price_bound": (NET, ("prices", PRICES, "NoPrices")),
    "prices.flow_sum": (NET, THING),
    "prices.least_bound": (NET,),
    "prices.best_flow": (NET,),
    "texts.sale_text": (SALE,),
    "texts.fraction_text": (("one", (1, 2), "NoNumber"),),
    "texts.sale_read": (("text", "3 4 10 40/3/1 25/3/2", "NoText"),),
    "counter.Counter": (SALE,),
}
# None of these is any thing that a refusal is told for.
NONE_OF_ALL = (None, True, False, "", "x", [], [0], [1, 2], (), (None,), ((), ()), {}, {0: 1}, -1, 10 ** 29, (1, 2, 3, 4, 5))


def found(place):
    """The function of a module."""
    module, name = place.split(".")
    return getattr(importlib.import_module(f"seatworth.{module}"), name)


def bad_things(place):
    """Things that are none in each place of a function that a refusal is told for."""
    if place == "fractions.fraction":
        return [thing for thing in NONE_OF_ALL if type(thing) is not int]
    return list(NONE_OF_ALL)


class Interface(Cases):
    def test_names_and_arguments(self):
        for place, arguments in FUNCTIONS.items():
            parameters = inspect.signature(found(place)).parameters
            with self.subTest(place=place):
                self.assertEqual(list(parameters), [name for name, right, refusal in arguments])
                for name, one in parameters.items():
                    kind = inspect.Parameter.KEYWORD_ONLY if name in BY_NAME else inspect.Parameter.POSITIONAL_OR_KEYWORD
                    self.assertIs(one.kind, kind)

    def test_by_places_and_by_names_and_again(self):
        for place, arguments in FUNCTIONS.items():
            asked = found(place)
            by_places = [right for name, right, refusal in arguments if name not in BY_NAME]
            by_names = {name: right for name, right, refusal in arguments if name in BY_NAME}
            due = asked(*by_places, **by_names)
            every = {name: right for name, right, refusal in arguments}
            with self.subTest(place=place):
                self.assertEqual(asked(**every), due)
                self.assertEqual(asked(**dict(reversed(every.items()))), due)
                self.assertEqual(asked(*by_places, **by_names), due)
                self.leaves_as_it_was(asked, *by_places, **by_names)

    def test_each_method(self):
        counter = Counter(sale=GOOD)
        for name, arguments in (
            ("ask", ["number"]), ("none", []), ("undo", []), ("left", []), ("time", []), ("earned", []), ("came", []), ("worth_now", []), ("twin", []),
        ):
            self.assertEqual(list(inspect.signature(getattr(counter, name)).parameters), arguments)
        self.assertEqual(list(inspect.signature(Desk().say).parameters), ["line"])


class Refusals(Cases):
    def refused(self, place, handed, due):
        """The class itself is due, straight under one of both families."""
        with self.assertRaises(errors.SeatError) as kept:
            found(place)(**handed)
        self.assertIs(type(kept.exception), getattr(errors, due), (place, handed))
        self.assertIn(type(kept.exception).__bases__, ((errors.NoThing,), (errors.NotNow,)))

    def test_each_place_alone(self):
        for place, arguments in FUNCTIONS.items():
            every = {name: right for name, right, refusal in arguments}
            for name, right, refusal in arguments:
                for thing in bad_things(place) if refusal else ():
                    self.refused(place, {**every, name: thing}, refusal)

    def test_several_at_once_the_one_further_to_the_left(self):
        draw = random.Random(140)
        for place, arguments in FUNCTIONS.items():
            for many in range(1, len(arguments) + 1):
                for some in itertools.combinations(range(len(arguments)), many):
                    for turn in range(10):
                        handed = {name: right for name, right, refusal in arguments}
                        due = [arguments[at][2] for at in some if arguments[at][2]]
                        for at in some:
                            handed[arguments[at][0]] = draw.choice(bad_things(place))
                        names = list(handed)
                        draw.shuffle(names)
                        if due:
                            self.refused(place, {name: handed[name] for name in names}, due[0])

    def test_things_of_whatever_kind_are_told_of_without_a_refusal(self):
        for place, arguments in FUNCTIONS.items():
            for name, right, refusal in arguments:
                if refusal is None:
                    for thing in OTHER_KINDS + NONE_OF_ALL:
                        handed = {other: one for other, one, refused in arguments}
                        told = found(place)(**{**handed, name: thing})
                        self.assertIn(told, (True, False, None))

    def test_what_is_refused_changes_nothing(self):
        draw = random.Random(141)
        due = [found(place)(**{name: right for name, right, refusal in rows}) for place, rows in FUNCTIONS.items()]
        for turn in range(200):
            place, arguments = draw.choice(list(FUNCTIONS.items()))
            try:
                found(place)(**{name: draw.choice(OTHER_KINDS) for name, right, refusal in arguments})
            except errors.SeatError:
                continue
        again = [found(place)(**{name: right for name, right, refusal in rows}) for place, rows in FUNCTIONS.items()]
        self.assertEqual(again, due)


class WhatHoldsTogether(Cases):
    def test_the_best_plan_the_open_classes_the_marks_and_a_counter(self):
        for sale in SALES + drawn_sales(142, 20, most_size=1) + drawn_sales(143, 20):
            seats, periods, cases, kinds = sale
            plan = best_plan(sale)
            single = all(size == 1 for fare, share, size in kinds)
            for number in range(len(kinds)):
                counter = Counter(sale)
                while counter.time() > 0:
                    left, time = counter.left(), counter.time()
                    is_open = left in opened(sale, number, time)
                    self.assertIs(number in plan[time - 1][left], is_open)
                    if single:
                        least = mark(sale, number, time)
                        self.assertIs(least is not None and least <= left, is_open)
                    self.assertIs(counter.twin().ask(number), is_open)
                    counter.ask(number)

    def test_at_each_time_and_number_left(self):
        """A sale of fewer seats and periods has the same worths, so a counter of it shows what is open then."""
        for sale in drawn_sales(144, 8, most_seats=6, most_periods=6):
            seats, periods, cases, kinds = sale
            for time in range(1, periods + 1):
                for left in range(seats + 1):
                    for number in range(len(kinds)):
                        counter = Counter((left, time, cases, kinds))
                        self.assertIs(counter.ask(number), left in opened(sale, number, time))

    def test_a_desk_tells_what_its_counter_does(self):
        draw = random.Random(145)
        for sale in drawn_sales(146, 15):
            desk, counter = Desk(), Counter(sale)
            desk.say(f"sale {sale_text(sale)}")
            while counter.time() > 0:
                for number in range(len(sale[3])):
                    due = " ".join(map(str, opened(sale, number, counter.time()))) or "nothing"
                    self.assertEqual(desk.say(f"open {number}"), due)
                number = draw.choice(list(what_comes(sale)))
                if number is None:
                    self.assertEqual([desk.say("none"), counter.none()], ["ok", None])
                else:
                    self.assertEqual(desk.say(f"ask {number}"), "sold" if counter.ask(number) else "kept")
                self.assertEqual(desk.say("worth"), fraction_text(counter.worth_now()))
                self.assertEqual([desk.say("left"), desk.say("time")], [str(counter.left()), str(counter.time())])

    def test_what_a_counter_has_earned_at_the_end_is_what_the_best_plan_brings(self):
        draw = random.Random(147)
        for sale in SALES + drawn_sales(148, 30):
            for turn in range(4):
                counter = Counter(sale)
                while counter.time() > 0:
                    number = draw.choice(list(what_comes(sale)))
                    counter.none() if number is None else counter.ask(number)
                self.same_number(money(sale, best_plan(sale), tuple(counter.came())), counter.earned())
                self.same_fraction(counter.worth_now(), (counter.earned(), 1))

    def test_the_mean_of_what_a_counter_earns_over_all_runs_is_the_worth(self):
        for sale in SMALL:
            seats, periods, cases, kinds = sale
            total = 0
            for run in all_runs(sale):
                counter = Counter(sale)
                for number in run:
                    counter.none() if number is None else counter.ask(number)
                total += run_cases(sale, run) * counter.earned()
            top, bottom = worth(sale, periods, seats)
            self.assertEqual(total * bottom, top * cases ** periods)

    def test_all_that_is_worth_the_same(self):
        for sale in SALES + drawn_sales(149, 30):
            seats, periods, cases, kinds = sale
            due = worth(sale, periods, seats)
            self.same_fraction(worths(sale)[periods][seats], due)
            self.same_fraction(plan_worth(sale, best_plan(sale)), due)
            self.same_fraction(over_bound(sale, worths(sale)), due)
            self.same_fraction(under_bound(sale, worths(sale)), due)
            self.same_fraction(worth_oversold(sale, seats, show=(5, 7), amends=50), due)
            self.same_fraction(Counter(sale).worth_now(), due)
            self.same_fraction(worth(sale_read(sale_text(sale)), periods, seats), due)
            desk = Desk()
            desk.say(f"sale {sale_text(sale)}")
            self.assertEqual(desk.say("worth"), fraction_text(due))
            if seats > 0:
                more = worth(sale, periods, seats - 1)
                self.assertEqual(is_less(more, due), seat_worth(sale, periods, seats) != (0, 1))

    def test_a_sale_as_a_net_of_one_leg(self):
        for sale in drawn_sales(150, 40, most_seats=4, most_periods=6, most_size=1):
            seats, periods, cases, kinds = sale
            net = ((seats,), periods, cases, tuple((fare, share, (0,)) for fare, share, size in kinds))
            due = worth(sale, periods, seats)
            self.same_fraction(net_worth(net), due)
            bound, prices = least_bound(net)
            self.assertIs(is_less(bound, due), False)
            self.assertIs(is_less(due, priced_worth(net, prices)), False)
            self.assertEqual(flow_sum(net, best_flow(net)), bound)
            # To sell by a price is to sell by a plan that is the same at all times.
            row = tuple(
                tuple(number for number, kind in enumerate(kinds) if left and not is_less((kind[0], 1), prices[0]))
                for left in range(seats + 1)
            )
            self.same_fraction(plan_worth(sale, (row,) * periods), priced_worth(net, prices))

    def test_no_plan_is_ahead_of_the_best_one_in_the_mean(self):
        draw = random.Random(151)
        for sale in SMALL + drawn_sales(152, 10):
            other = drawn_plan(draw, sale, 0.6)
            least, run = shortfall(sale, other, best_plan(sale))
            self.assertEqual(money(sale, other, run) - money(sale, best_plan(sale), run), least)
            if plan_worth(sale, other) != plan_worth(sale, best_plan(sale)):
                self.assertLess(least, 0)


class WhatIsTold(Cases):
    def fractions_in(self, told):
        """All pairs in a told table are fractions by [5]."""
        for row in told:
            for number in row:
                self.assertIs(is_fraction(number), True)

    def test_each_fraction_is_one(self):
        for sale in SALES:
            self.fractions_in(worths(sale))
            self.fractions_in(((Counter(sale).worth_now(), plan_worth(sale, best_plan(sale)), worth_oversold(sale, 16, show=(2, 4), amends=6)),))
        bound, prices = least_bound(GOOD_NET)
        self.fractions_in((prices, best_flow(GOOD_NET), (bound, net_worth(GOOD_NET), price_bound(GOOD_NET, PRICES))))

    def test_what_is_told_may_be_handed_in_again(self):
        self.assertEqual(over_bound(GOOD, worths(GOOD)), worth(GOOD, 4, 3))
        self.assertEqual(shortfall(GOOD, best_plan(GOOD), best_plan(GOOD)), (0, (0, 0, 0, 0)))
        self.assertEqual(money(GOOD, PLAN, shortfall(GOOD, PLAN, PLAN)[1]), 120)
        self.assertEqual(sale_text(sale_read(sale_text(GOOD))), sale_text(GOOD))
        self.assertEqual(Counter(sale_read(sale_text(GOOD))), Counter(GOOD))
        self.assertIs(found("runs.is_run")(GOOD, tuple(Counter(GOOD).came())), False)
        for thing in (worths(GOOD)[::-1], worths(GOOD) * 40, best_plan(GOOD) * 40, best_plan(GOOD)[::-1], worths(GOOD)[:2]):
            for place in ("tables.over_bound", "tables.under_bound", "plans.is_plan", "runs.is_run"):
                found(place)(GOOD, thing)


if __name__ == "__main__":
    unittest.main()
