"""Tests of runs: points [41] and [42], and [2] to [5] as far as they bear on them."""

import random
import unittest
from fractions import Fraction

from plainly import all_plans, all_runs, drawn_plan, pair, plain_money, plain_run_cases, plain_shortfall, what_comes
from seatworth.errors import NoPlan, NoRun, NoSale
from seatworth.plans import best_plan, plan_worth
from seatworth.runs import is_run, money, run_cases, shortfall
from test_plans import SELLS_ALL, SELLS_NOTHING, TWO, changed_things, sells_all, sells_nothing, some_plans
from things import (
    GOOD, GREAT, GREATEST_SALE, LEAST_SALE, LONG_NO_SALES, NO_SALES, OTHER_KINDS, SALES, Cases, drawn_sales, with_part,
)

# In each case of a period an ask comes.
FULL = (2, 3, 4, ((10, 1, 1), (30, 3, 2)))
# In some none does.
OPEN = (2, 3, 7, ((10, 1, 1), (30, 2, 2)))
SMALL = (
    TWO, FULL, OPEN, LEAST_SALE, (0, 3, 3, ((6, 1, 1),)), (2, 0, 3, ((6, 1, 1),)), (1, 1, 1, ((1, 1, 1),)),
    (3, 4, 5, ((10, 2, 1), (7, 1, 2), (9, 2, 1))), (4, 4, 9, ((10, 1, 1), (20, 1, 2), (30, 1, 3), (40, 1, 4))),
    (3, 4, 24, ((99, 1, 1), (98, 1, 1), (97, 1, 1), (96, 1, 1))), (2, 5, 3, ((50, 1, 2), (20, 1, 1))),
)
BAD_COMING = OTHER_KINDS[1:3] + OTHER_KINDS[6:] + (2, 3, -1, (0,), (None,), [None], (0, 1), "None", {0: None})


def drawn_run(draw, sale):
    """A run that is drawn, each thing that can come alike."""
    return tuple(draw.choice(list(what_comes(sale))) for period in range(sale[1]))


class WhatIsARun(Cases):
    def all_are(self, sale, things, due):
        for thing in things:
            with self.subTest(sale=sale, thing=thing):
                self.assertIs(is_run(sale, thing), due)

    def test_every_run_of_small_sales(self):
        for sale in SMALL:
            self.all_are(sale, all_runs(sale), True)

    def test_none_where_all_cases_bring_an_ask(self):
        self.all_are(FULL, ((0, 0, 0), (1, 1, 1), (1, 0, 1)), True)
        self.all_are(FULL, ((None, 0, 0), (0, None, 1), (1, 1, None), (None, None, None)), False)
        self.all_are(OPEN, ((None, 0, 0), (0, None, 1), (1, 1, None), (None, None, None)), True)
        self.all_are((1, 1, 24, ((1, 23, 1),)), ((None,),), True)
        self.all_are((1, 1, 24, ((1, 24, 1),)), ((None,),), False)
        self.all_are((1, 1, 4, ((1, 1, 1),) * 4), ((None,),), False)
        self.all_are((1, 1, 5, ((1, 1, 1),) * 4), ((None,),), True)

    def test_no_period(self):
        for sale in (LEAST_SALE, (2, 0, 3, ((6, 1, 1),))):
            self.all_are(sale, ((),), True)
            self.all_are(sale, ((0,), (None,), ((),), [], None, "", {}, 0, False), False)

    def test_what_no_seat_is_left_for_may_come(self):
        self.all_are((0, 3, 3, ((6, 1, 4),)), ((0, 0, 0), (None, 0, None)), True)
        self.all_are((1, 3, 3, ((6, 1, 4),)), ((0, 0, 0),), True)

    def test_one_part_otherwise(self):
        for sale in (FULL, OPEN, (3, 4, 10, ((40, 3, 1), (25, 3, 2)))):
            for run in ((0,) * sale[1], (1,) * sale[1], (0, 1, 0, 1)[:sale[1]], (1, 0, 1, 0)[:sale[1]]):
                for at in range(sale[1]):
                    self.all_are(sale, (with_part(run, at, part) for part in BAD_COMING), False)
                self.all_are(sale, (
                    run[1:], run[:-1], run + (0,), (0,) + run, run * 2, run * 9, (run,), list(run), dict(enumerate(run)), str(run), (),
                    run + (None,), run[:-1] + ((),), (run, run), run[:-1] + (run[-1:],),
                ), False)

    def test_numbers_of_classes(self):
        for many in range(1, 5):
            sale = (1, 1, 24, ((1, 1, 1),) * many)
            self.assertEqual([k for k in range(-9, 30) if is_run(sale, (k,))], list(range(many)))

    def test_other_things_altogether(self):
        for sale in SALES + SMALL:
            for thing in OTHER_KINDS + (sale, best_plan, (sale,), 10 ** 5000, (10 ** 5000,) * sale[1] + (0,)):
                self.assertIs(is_run(sale, thing), False)


class RunCases(Cases):
    def test_by_hand(self):
        self.same_number(run_cases(OPEN, (0, 1, None)), 1 * 2 * 4)
        self.same_number(run_cases(OPEN, (None, None, None)), 64)
        self.same_number(run_cases(OPEN, (1, 1, 1)), 8)
        self.same_number(run_cases(FULL, (1, 1, 0)), 9)
        self.same_number(run_cases(LEAST_SALE, ()), 1)
        self.same_number(run_cases((12, 12, 24, ((99, 24, 4),)), (0,) * 12), 24 ** 12)
        self.same_number(run_cases((12, 12, 24, ((99, 1, 4),)), (None,) * 12), 23 ** 12)
        # Cases have nothing to do with whether an ask can be sold.
        self.same_number(run_cases((0, 3, 3, ((6, 2, 4),)), (0, 0, None)), 4)

    def test_by_its_words(self):
        draw = random.Random(60)
        for sale in SALES + drawn_sales(61, 40):
            for turn in range(5):
                run = drawn_run(draw, sale)
                self.same_number(run_cases(sale, run), plain_run_cases(sale, run))

    def test_all_runs_together(self):
        for sale in SMALL:
            self.assertEqual(sum(run_cases(sale, run) for run in all_runs(sale)), sale[2] ** sale[1])


class Money(Cases):
    def test_by_hand(self):
        for run, due in (
            ((0, 0), 20), ((0, 1), 10), ((1, 0), 30), ((1, 1), 30), ((0, None), 10), ((None, 0), 10), ((None, 1), 30), ((None, None), 0),
        ):
            self.same_number(money(TWO, SELLS_ALL, run), due)
            self.same_number(money(TWO, SELLS_NOTHING, run), 0)
        # The last row of a plan is of the first period: one of 10 is sold in the last period alone.
        last = (((), (0,), (0,)), ((), (), ()))
        first = (((), (), ()), ((), (0,), (0,)))
        for run, of_last, of_first in (((0, 0), 10, 10), ((0, 1), 0, 10), ((1, 0), 10, 0), ((0, None), 0, 10), ((None, 0), 10, 0)):
            self.same_number(money(TWO, last, run), of_last)
            self.same_number(money(TWO, first, run), of_first)
        self.same_number(money(LEAST_SALE, (), ()), 0)
        self.same_number(money((0, 2, 3, ((6, 1, 1),)), (((),), ((),)), (0, 0)), 0)
        self.same_number(money(GREATEST_SALE, sells_all(GREATEST_SALE), (0, 1, 2, 3) * 3), 297)

    def test_what_is_left_counts(self):
        # With two left the one of 10 is kept, with one left it is sold.
        sale = (3, 3, 4, ((10, 1, 1), (30, 1, 2)))
        plan = (((), (0,), (1,), (1,)),) * 3
        self.same_number(money(sale, plan, (0, 0, 0)), 0)
        self.same_number(money(sale, plan, (0, 1, 0)), 40)
        self.same_number(money(sale, plan, (1, 0, 0)), 40)
        self.same_number(money(sale, plan, (1, 1, 0)), 40)
        self.same_number(money(sale, plan, (1, None, 1)), 30)

    def test_by_its_words(self):
        draw = random.Random(62)
        for seed, sale in enumerate(SALES + drawn_sales(63, 40)):
            for plan in some_plans(sale, seed):
                for turn in range(4):
                    run = drawn_run(draw, sale)
                    self.same_number(money(sale, plan, run), plain_money(sale, plan, run))

    def test_every_run_of_small_sales(self):
        for seed, sale in enumerate(SMALL):
            for plan in some_plans(sale, seed):
                for run in all_runs(sale):
                    self.same_number(money(sale, plan, run), plain_money(sale, plan, run))

    def test_the_mean_over_all_runs_is_the_worth_of_the_plan(self):
        for seed, sale in enumerate(SMALL):
            for plan in some_plans(sale, seed):
                total = sum(run_cases(sale, run) * money(sale, plan, run) for run in all_runs(sale))
                self.same_fraction(plan_worth(sale, plan), pair(Fraction(total, sale[2] ** sale[1])))


class Shortfall(Cases):
    def told(self, sale, plan, other, due):
        with self.subTest(sale=sale, plan=plan, other=other):
            answer = shortfall(sale, plan, other)
            self.assertEqual(answer, due)
            self.assertEqual([type(part) for part in (answer,) + answer], [tuple, int, tuple])
            self.assertEqual([type(part) for part in answer[1]], [type(part) for part in due[1]])

    def test_by_hand(self):
        self.told(TWO, SELLS_NOTHING, SELLS_ALL, (-30, (1, 0)))
        # All against nothing: nothing less, the first run in which nothing can be had is of None alone.
        self.told(TWO, SELLS_ALL, SELLS_NOTHING, (0, (None, None)))
        self.told(TWO, SELLS_ALL, SELLS_ALL, (0, (0, 0)))
        # Keeping 10 for 30 at the first period: behind by 10 where no 30 comes, ahead by 20 where it does.
        keeps = (((), (0,), (0, 1)), ((), (0,), (1,)))
        self.told(TWO, keeps, SELLS_ALL, (-10, (0, 0)))
        self.told(TWO, SELLS_ALL, keeps, (-20, (0, 1)))
        # An ask always comes, so there is no None; the least is above nought.
        sale = (1, 2, 2, ((10, 1, 1), (90, 1, 1)))
        self.told(sale, sells_all(sale), sells_nothing(sale), (10, (0, 0)))
        self.told(sale, sells_nothing(sale), sells_all(sale), (-90, (1, 0)))
        self.told(LEAST_SALE, (), (), (0, ()))
        self.told((2, 0, 3, ((6, 1, 1),)), (), (), (0, ()))
        self.told((0, 2, 3, ((6, 1, 1),)), (((),), ((),)), (((),), ((),)), (0, (0, 0)))

    def test_the_first_run_of_several(self):
        sale = (1, 3, 4, ((10, 1, 1), (10, 1, 1), (10, 1, 1)))
        nothing, all_sold = sells_nothing(sale), sells_all(sale)
        self.told(sale, nothing, all_sold, (-10, (0, 0, 0)))
        # None is behind all numbers: it comes only where a number would bring more.
        self.told(sale, all_sold, nothing, (0, (None, None, None)))
        # Of the last class alone anything is sold.
        last = tuple(((), (2,)) for time in range(3))
        self.told(sale, nothing, last, (-10, (0, 0, 2)))
        self.told(sale, last, nothing, (0, (0, 0, 0)))
        first = tuple(((), (0,)) for time in range(3))
        self.told(sale, first, nothing, (0, (1, 1, 1)))
        self.told(sale, first, last, (-10, (1, 1, 2)))
        # At one time alone; the first row is of the last period.
        self.told(sale, nothing, (((), (1,)), ((), ()), ((), ())), (-10, (0, 0, 1)))
        self.told(sale, nothing, (((), ()), ((), (1,)), ((), ())), (-10, (0, 1, 0)))
        self.told(sale, nothing, (((), ()), ((), ()), ((), (1,))), (-10, (1, 0, 0)))
        self.told(sale, (((), (0, 1, 2)), ((), ()), ((), ())), nothing, (0, (0, 0, None)))

    def test_all_pairs_of_plans_against_all_runs(self):
        for sale in ((2, 1, 4, ((10, 1, 1), (30, 1, 2))), (1, 2, 3, ((10, 1, 1), (9, 1, 1))), (1, 2, 2, ((10, 1, 1), (9, 1, 1)))):
            plans = list(all_plans(sale))
            for plan in plans:
                for other in plans:
                    self.told(sale, plan, other, plain_shortfall(sale, plan, other))

    def test_small_sales_against_all_runs(self):
        draw = random.Random(64)
        for seed, sale in enumerate(SMALL + drawn_sales(65, 25, most_seats=6, most_periods=4)):
            plans = some_plans(sale, seed) + (drawn_plan(draw, sale, 0.7),)
            for plan in plans:
                for other in draw.sample(plans, 3):
                    self.told(sale, plan, other, plain_shortfall(sale, plan, other))

    def test_twelve_periods_and_four_classes_at_once(self):
        """There are 5 ** 12 runs; each told run has just the told money, and no drawn one has less."""
        draw = random.Random(66)
        sale = (12, 12, 24, ((99, 1, 4), (60, 5, 3), (31, 7, 2), (11, 9, 1)))
        for plan in some_plans(sale, 67):
            for other in some_plans(sale, 68):
                least, run = shortfall(sale, plan, other)
                self.assertIs(is_run(sale, run), True)
                self.assertEqual(plain_money(sale, plan, run) - plain_money(sale, other, run), least)
                for turn in range(30):
                    drawn = drawn_run(draw, sale)
                    self.assertGreaterEqual(plain_money(sale, plan, drawn) - plain_money(sale, other, drawn), least)

    def test_twelve_periods_by_hand(self):
        sale = (12, 12, 24, ((99, 6, 1), (98, 6, 1), (97, 6, 1), (96, 5, 1)))
        self.told(sale, sells_nothing(sale), sells_all(sale), (-99 * 12, (0,) * 12))
        self.told(sale, sells_all(sale), sells_nothing(sale), (0, (None,) * 12))
        self.told(sale, sells_all(sale), sells_all(sale), (0, (0,) * 12))
        sale = sale[:2] + (23,) + sale[3:]
        self.told(sale, sells_all(sale), sells_nothing(sale), (96 * 12, (3,) * 12))
        # One seat that the one plan keeps for 99 in the last period: it is behind by 99 where 99 comes ahead of it, but not then.
        sale = (1, 12, 23, ((99, 6, 1), (98, 6, 1), (97, 6, 1), (96, 5, 1)))
        keeps = (((), (0,)),) + (((), ()),) * 11
        self.told(sale, keeps, sells_all(sale), (-99, (0,) * 11 + (1,)))
        self.told(sale, sells_all(sale), keeps, (-3, (3,) + (0,) * 11))

    def test_no_seat_left_at_different_times(self):
        """The one plan still has seats where the other one has none."""
        sale = (2, 4, 5, ((10, 2, 1), (25, 2, 2)))
        early = tuple(((), (0,), (0,)) for time in range(4))
        late = tuple(((), (), (1,)) for time in range(4))
        for plan, other in ((early, late), (late, early)):
            self.told(sale, plan, other, plain_shortfall(sale, plan, other))


class Refusals(Cases):
    PLAN = sells_all(GOOD)
    RUN = (0, 1, None, 0)
    NO_RUNS = ((0, 1, 2, 0), (0, 1, None), (0, 1, None, 0, 0), [0, 1, None, 0], (0, True, None, 0), (), GOOD, PLAN) + OTHER_KINDS

    def test_no_sale(self):
        for sale in NO_SALES + LONG_NO_SALES:
            self.refuses(NoSale, is_run, sale, ())
            self.refuses(NoSale, run_cases, sale, ())
            self.refuses(NoSale, money, sale, (), ())
            self.refuses(NoSale, shortfall, sale, (), ())

    def test_no_run(self):
        for run in self.NO_RUNS:
            with self.subTest(run=run):
                self.refuses(NoRun, run_cases, GOOD, run)
                self.refuses(NoRun, money, GOOD, self.PLAN, run)
        self.refuses(NoRun, run_cases, FULL, (0, None, 0))
        self.refuses(NoRun, money, FULL, sells_all(FULL), (0, None, 0))
        self.refuses(NoRun, run_cases, LEAST_SALE, (0,))
        self.refuses(NoRun, run_cases, GOOD, (10 ** 5000,) * 4)
        self.refuses(NoRun, run_cases, GOOD, (GREAT,) * 4)

    def test_no_plan(self):
        for plan in changed_things(GOOD, self.PLAN) + list(OTHER_KINDS) + [(), GOOD, self.RUN]:
            self.refuses(NoPlan, money, GOOD, plan, self.RUN)
            self.refuses(NoPlan, shortfall, GOOD, plan, self.PLAN)
            self.refuses(NoPlan, shortfall, GOOD, self.PLAN, plan)

    def test_what_stands_further_to_the_left_is_ahead(self):
        for sale in (None, [], list(GOOD), (), GOOD[:3], NO_SALES[-1]):
            for plan in (None, [], self.PLAN, ()):
                for run in (None, [], self.RUN, self.PLAN, ()):
                    self.refuses(NoSale, money, sale, plan, run)
                    self.refuses(NoSale, shortfall, sale, plan, run)
                    self.refuses(NoSale, run_cases, sale, run)
                    self.refuses(NoSale, is_run, sale, run)
        for plan in (None, [], (), self.PLAN[1:], self.RUN):
            for run in self.NO_RUNS:
                self.refuses(NoPlan, money, GOOD, plan, run)
                self.refuses(NoPlan, shortfall, GOOD, plan, run)


class Asking(Cases):
    def test_by_places_and_by_names(self):
        self.asked_by(is_run, "sale", "thing")
        self.asked_by(run_cases, "sale", "run")
        self.asked_by(money, "sale", "plan", "run")
        self.asked_by(shortfall, "sale", "plan", "other")
        self.assertIs(is_run(thing=(0, 1), sale=TWO), True)
        self.assertEqual(run_cases(run=(0, None), sale=TWO), 2)
        self.assertEqual(money(run=(0, 0), plan=SELLS_ALL, sale=TWO), 20)
        self.assertEqual(money(TWO, SELLS_ALL, run=(0, 0)), 20)
        self.assertEqual(shortfall(other=SELLS_ALL, plan=SELLS_NOTHING, sale=TWO), (-30, (1, 0)))
        self.refuses(NoSale, money, run=None, plan=None, sale=None)
        self.refuses(NoPlan, money, run=None, plan=None, sale=TWO)
        self.refuses(NoPlan, shortfall, other=None, plan=SELLS_ALL, sale=TWO)

    def test_the_same_again_and_nothing_changed(self):
        for sale in (TWO, FULL, OPEN, GOOD, LEAST_SALE, GREATEST_SALE, None, list(GOOD)):
            plan = best_plan(sale) if type(sale) is tuple else None
            for thing in OTHER_KINDS + ((), (0, 1), (0, 1, None, 0), [0, 1], plan, ([0], [None])):
                self.leaves_as_it_was(is_run, sale, thing)
                self.leaves_as_it_was(run_cases, sale, thing)
                self.leaves_as_it_was(money, sale, plan, thing)
                self.leaves_as_it_was(money, sale, thing, thing)
                self.leaves_as_it_was(shortfall, sale, plan, thing)
                self.leaves_as_it_was(shortfall, sale, thing, plan)

    def test_what_was_handed_in_may_be_changed_later(self):
        run = [0, 0]
        self.assertEqual(money(TWO, SELLS_ALL, tuple(run)), 20)
        run[0] = 1
        self.assertEqual(money(TWO, SELLS_ALL, tuple(run)), 30)
        self.refuses(NoRun, money, TWO, SELLS_ALL, run)

    def test_truths_are_not_taken_for_numbers_told_ahead(self):
        for turn in range(2):
            self.same_number(run_cases(TWO, (0, 1)), 1)
            self.refuses(NoRun, run_cases, TWO, (False, True))
            self.same_number(money(TWO, SELLS_ALL, (0, 1)), 10)
            self.refuses(NoRun, money, TWO, SELLS_ALL, (0, True))
            self.assertIs(is_run(TWO, (False, 1)), False)
            self.assertIs(is_run(TWO, (0, 1)), True)


if __name__ == "__main__":
    unittest.main()
