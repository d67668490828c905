"""Tests of plans: point [40], and [2] to [5] as far as they bear on them."""

import random
import unittest

from plainly import all_plans, drawn_plan, mean_money, pair, plain_best_plan, plain_plan_worth
from seatworth.errors import NoPlan, NoSale
from seatworth.fractions import is_fraction, is_less
from seatworth.marks import mark, opened
from seatworth.plans import best_plan, is_plan, plan_worth
from seatworth.worths import worth
from things import (
    GOOD, GREAT, GREATEST_SALE, LEAST_SALE, LONG_NO_SALES, NO_SALES, OTHER_KINDS, SALES, Cases, drawn_sales, with_part,
)

# One of 10 for one seat, one of 30 for two.
TWO = (2, 2, 4, ((10, 1, 1), (30, 1, 2)))
SELLS_ALL = (((), (0,), (0, 1)), ((), (0,), (0, 1)))
SELLS_NOTHING = (((), (), ()), ((), (), ()))


def sells_all(sale):
    """The plan that sells all that can be sold."""
    return drawn_plan(random.Random(0), sale, 2)


def sells_nothing(sale):
    """The plan that sells nothing."""
    return (((),) * (sale[0] + 1),) * sale[1]


def some_plans(sale, seed):
    """Plans that sell all, nothing, the best one, and drawn ones that sell little and much."""
    draw = random.Random(seed)
    drawn = tuple(drawn_plan(draw, sale, chance) for chance in (0.1, 0.5, 0.9))
    return (sells_all(sale), sells_nothing(sale), best_plan(sale)) + drawn


def with_spot(plan, time, left, part):
    """A plan with another part at a time, from 1 on, and a number left."""
    return with_part(plan, time - 1, with_part(plan[time - 1], left, part))


def changed_things(sale, plan):
    """Things that are no plans of the sale, each a plan with one part otherwise; the sale has seats and periods."""
    seats, periods, cases, kinds = sale
    many = len(kinds)
    things = [
        plan[1:], plan[:-1], plan + plan[-1:], plan[:1] + plan, plan * 2 + plan, (plan,), plan + ((),), plan + (None,), list(plan),
        dict(enumerate(plan)), plan[0], [list(row) for row in plan],
    ]
    for at, row in enumerate(plan):
        for other in (
            row[1:], row[:-1], row + row[-1:], row + ((),), row * 2 + row, (), (row,), list(row), dict(enumerate(row)), None, row[-1] + (None,),
        ):
            things.append(with_part(plan, at, other))
        for left in range(seats + 1):
            for part in OTHER_KINDS + (
                (many,), (0, many), (-1,), (-1, 0), (GREAT,), (True,), (False,), (0, True), (False, 1), (None,), ("0",), ((0,),), ([0],), [],
                [0], {}, {0: 0}, "", (0, None), (0, 0), (many - 1, many - 1), (1, 0), (many - 1, 0, 0), (0, 1, 1), (0, 1, 0), (2, 1, 0),
            ):
                things.append(with_spot(plan, at + 1, left, part))
            for number, kind in enumerate(kinds):
                if kind[2] > left:
                    things.append(with_spot(plan, at + 1, left, (number,)))
                    things.append(with_spot(plan, at + 1, left, tuple(sorted({0, number}))))
    return things


class WhatIsAPlan(Cases):
    def all_are(self, sale, things, due):
        for thing in things:
            with self.subTest(sale=sale, thing=thing):
                self.assertIs(is_plan(sale, thing), due)

    def test_by_hand(self):
        self.all_are(TWO, (
            SELLS_ALL, SELLS_NOTHING, (((), (0,), (1,)), ((), (), (0,))), (((), (), (0, 1)), ((), (0,), ())),
        ), True)
        self.all_are(TWO, (
            (((), (1,), ()), ((), (), ())), (((0,), (), ()), ((), (), ())), (((), (), ()), ((), (0, 1), ())),
            (((), (), (1, 0)), ((), (), ())), (((), (), (0, 0)), ((), (), ())), (((), (), (2,)), ((), (), ())),
            (((), (), (-1,)), ((), (), ())), (((), (), (True,)), ((), (), ())), (((), (), [0]), ((), (), ())),
            (((), (), ()),), (((), (), ()),) * 3, (((), ()), ((), ())), (((), (), ()), ((), (), (), ())),
        ), False)

    def test_no_seat_and_no_period(self):
        self.all_are(LEAST_SALE, ((),), True)
        self.all_are(LEAST_SALE, (((),), (((),),), [], None, "", {}, 0, False), False)
        self.all_are((0, 2, 3, ((6, 1, 1),)), ((((),), ((),)),), True)
        self.all_are((0, 2, 3, ((6, 1, 1),)), ((), ((), ()), (((0,),), ((),)), (((),),), (((),), ((), ())), (((),),) * 3), False)
        self.all_are((2, 0, 3, ((6, 1, 1),)), ((),), True)
        self.all_are((2, 0, 3, ((6, 1, 1),)), (((),), (((), (), ()),), ((), (), ())), False)

    def test_plans_of_all_sorts(self):
        for seed, sale in enumerate(SALES + drawn_sales(50, 30)):
            self.all_are(sale, some_plans(sale, seed), True)

    def test_just_all_plans_of_small_sales(self):
        """Of all tuples of tuples over three numbers and up to two of them, just the plans are plans."""
        sale = (2, 1, 4, ((10, 1, 1), (30, 1, 2)))
        parts = [()] + [(one,) for one in range(-1, 3)] + [(one, other) for one in range(-1, 3) for other in range(-1, 3)]
        plans = set(all_plans(sale))
        self.assertEqual(len(plans), 8)
        for one in parts:
            for two in parts:
                for three in parts:
                    thing = ((one, two, three),)
                    self.assertIs(is_plan(sale, thing), thing in plans, thing)

    def test_one_part_otherwise(self):
        for seed, sale in enumerate((TWO, GOOD, (1, 1, 1, ((1, 1, 1),)), (4, 3, 5, ((10, 1, 1), (20, 1, 2), (30, 1, 3), (40, 1, 4))))):
            for plan in some_plans(sale, seed):
                self.all_are(sale, changed_things(sale, plan), False)

    def test_sizes_at_what_is_left(self):
        for size in range(1, 5):
            sale = (6, 1, 5, ((10, 1, size),))
            for left in range(7):
                self.all_are(sale, (with_spot(sells_nothing(sale), 1, left, (0,)),), left >= size)

    def test_other_things_altogether(self):
        for sale in SALES + (GOOD,):
            for thing in OTHER_KINDS + (sale, (sale,), ((0, 1),), 10 ** 5000):
                if thing != ():
                    self.assertIs(is_plan(sale, thing), False)

    def test_the_plan_of_another_sale(self):
        for other in ((4,) + GOOD[1:], (2,) + GOOD[1:], (3, 3) + GOOD[2:], (3, 5) + GOOD[2:]):
            self.assertIs(is_plan(GOOD, sells_all(other)), False)
        self.assertIs(is_plan(GOOD, sells_all(GOOD[:3] + (((40, 3, 1), (25, 3, 1)),))), False)
        self.assertIs(is_plan(GOOD, sells_all(GOOD[:3] + (((40, 3, 1), (25, 3, 4)),))), True)


class Worth(Cases):
    def test_by_hand(self):
        self.same_fraction(plan_worth(TWO, SELLS_NOTHING), (0, 1))
        # At the first period 10 and then 5 / 2, or 30, or 10 behind none: (10 + 5 / 2 + 30 + 2 * 10) / 4.
        self.same_fraction(plan_worth(TWO, SELLS_ALL), (125, 8))
        # 30 alone, in one of four cases at either time.
        self.same_fraction(plan_worth(TWO, (((), (), (1,)), ((), (), (1,)))), (105, 8))
        # The first row is of the last period: 10 is sold there, of one and of two left; ahead of it 30 is.
        self.same_fraction(plan_worth(TWO, (((), (0,), (0,)), ((), (), (1,)))), (75, 8))
        self.same_fraction(plan_worth(TWO, (((), (), (1,)), ((), (0,), (0,)))), (65, 8))
        # A plan that sells with one left alone never has one left.
        self.same_fraction(plan_worth(TWO, (((), (0,), ()), ((), (0,), ()))), (0, 1))
        self.same_fraction(plan_worth((2, 3, 24, ((99, 24, 1),)), sells_all((2, 3, 24, ((99, 24, 1),)))), (198, 1))
        self.same_fraction(plan_worth(LEAST_SALE, ()), (0, 1))
        self.same_fraction(plan_worth((0, 2, 3, ((6, 1, 1),)), (((),), ((),))), (0, 1))

    def test_by_its_words(self):
        for seed, sale in enumerate(SALES + drawn_sales(51, 40)):
            for plan in some_plans(sale, seed):
                told = plan_worth(sale, plan)
                self.same_fraction(told, pair(plain_plan_worth(sale, plan)))
                self.assertIs(is_fraction(told), True)

    def test_the_mean_over_all_runs(self):
        for sale in (TWO, (3, 3, 4, ((10, 1, 1), (35, 2, 2))), (2, 3, 3, ((9, 1, 1), (5, 1, 1), (20, 1, 2)))):
            for plan in some_plans(sale, 52):
                sells = {
                    (period, left, number): number in plan[sale[1] - period - 1][left]
                    for period in range(sale[1]) for left in range(sale[0] + 1) for number in range(len(sale[3]))
                }
                self.same_fraction(plan_worth(sale, plan), pair(mean_money(sale, sells)))

    def test_great_numbers(self):
        sale = (12, 12, 23, ((97, 1, 1),))
        self.same_fraction(plan_worth(sale, sells_all(sale)), (12 * 97, 23))
        few = tuple(tuple((0,) if left == 12 else () for left in range(13)) for time in range(12))
        self.same_fraction(plan_worth(sale, few), (97 * (23 ** 12 - 22 ** 12), 23 ** 12))

    def test_the_bounds_all_at_once(self):
        for turn in range(20):
            self.same_fraction(plan_worth(GREATEST_SALE, sells_all(GREATEST_SALE)), (297, 1))


class Best(Cases):
    def test_by_hand(self):
        self.assertEqual(best_plan((2, 2, 2, ((10, 1, 1), (90, 1, 1)))), (((), (0, 1), (0, 1)), ((), (1,), (0, 1))))
        # One of 10 breaks a pair worth 45 in the mean where two are left.
        self.assertEqual(
            best_plan((3, 2, 2, ((10, 1, 1), (90, 1, 2)))), (((), (0,), (0, 1), (0, 1)), ((), (0,), (1,), (0, 1))),
        )
        # Just the same is open, too.
        self.assertEqual(best_plan((1, 2, 4, ((10, 1, 1), (30, 1, 1)))), (((), (0, 1)), ((), (0, 1))))
        self.assertEqual(best_plan((1, 2, 3, ((10, 1, 1), (30, 1, 1)))), (((), (0, 1)), ((), (1,))))
        self.assertEqual(best_plan(LEAST_SALE), ())
        self.assertEqual(best_plan((2, 0, 3, ((6, 1, 1),))), ())
        self.assertEqual(best_plan((0, 2, 3, ((6, 1, 1),))), (((),), ((),)))

    def test_where_each_class_is_open(self):
        for sale in SALES + drawn_sales(53, 40):
            seats, periods, cases, kinds = sale
            told = best_plan(sale)
            self.assertEqual(told, plain_best_plan(sale))
            self.assertIs(is_plan(sale, told), True)
            for number in range(len(kinds)):
                for time in range(1, periods + 1):
                    due = tuple(left for left in range(seats + 1) if number in told[time - 1][left])
                    self.assertEqual(opened(sale, number, time), due)

    def test_its_marks(self):
        for sale in drawn_sales(54, 20, most_size=1):
            told = best_plan(sale)
            for number in range(len(sale[3])):
                for time in range(1, sale[1] + 1):
                    lefts = [left for left in range(sale[0] + 1) if number in told[time - 1][left]]
                    self.assertEqual(mark(sale, number, time), min(lefts, default=None))

    def test_its_kinds(self):
        for sale in SALES:
            told = best_plan(sale)
            self.assertIs(type(told), tuple)
            for row in told:
                self.assertIs(type(row), tuple)
                for numbers in row:
                    self.assertIs(type(numbers), tuple)
                    self.assertEqual([type(number) for number in numbers], [int] * len(numbers))

    def test_its_worth_is_that_of_the_sale(self):
        for sale in SALES + drawn_sales(55, 60):
            self.same_fraction(plan_worth(sale, best_plan(sale)), worth(sale, sale[1], sale[0]))

    def test_no_plan_brings_more(self):
        for seed, sale in enumerate(SALES + drawn_sales(56, 40)):
            for plan in some_plans(sale, seed):
                self.assertIs(is_less(worth(sale, sale[1], sale[0]), plan_worth(sale, plan)), False)

    def test_the_most_of_all_plans(self):
        for sale in ((2, 2, 4, ((10, 1, 1), (30, 1, 2))), (1, 3, 3, ((5, 1, 1), (20, 1, 1))), (2, 2, 2, ((10, 1, 1), (15, 1, 2)))):
            most = max(plain_plan_worth(sale, plan) for plan in all_plans(sale))
            self.same_fraction(plan_worth(sale, best_plan(sale)), pair(most))


class Refusals(Cases):
    def test_no_sale(self):
        for sale in NO_SALES:
            with self.subTest(sale=sale):
                self.refuses(NoSale, is_plan, sale, ())
                self.refuses(NoSale, plan_worth, sale, ())
                self.refuses(NoSale, best_plan, sale)
        for sale in LONG_NO_SALES:
            self.refuses(NoSale, is_plan, sale, ())
            self.refuses(NoSale, plan_worth, sale, ())
            self.refuses(NoSale, best_plan, sale)

    def test_no_plan(self):
        for sale in (TWO, GOOD):
            for thing in changed_things(sale, sells_all(sale)) + list(OTHER_KINDS) + [(), sale]:
                with self.subTest(sale=sale, thing=thing):
                    self.refuses(NoPlan, plan_worth, sale, thing)
        self.refuses(NoPlan, plan_worth, LEAST_SALE, ((),))
        self.refuses(NoPlan, plan_worth, LEAST_SALE, [])
        self.refuses(NoPlan, plan_worth, TWO, with_spot(SELLS_ALL, 1, 2, (10 ** 5000,)))

    def test_no_sale_is_ahead(self):
        for thing in OTHER_KINDS + (SELLS_ALL, GOOD):
            for sale in (None, list(TWO), SELLS_ALL, NO_SALES[-1]):
                self.refuses(NoSale, plan_worth, sale, thing)
                self.refuses(NoSale, is_plan, sale, thing)


class Asking(Cases):
    def test_by_places_and_by_names(self):
        self.asked_by(is_plan, "sale", "thing")
        self.asked_by(plan_worth, "sale", "plan")
        self.asked_by(best_plan, "sale")
        self.assertIs(is_plan(sale=TWO, thing=SELLS_ALL), True)
        self.assertIs(is_plan(thing=TWO, sale=TWO), False)
        self.assertEqual(plan_worth(sale=TWO, plan=SELLS_ALL), (125, 8))
        self.assertEqual(plan_worth(plan=SELLS_ALL, sale=TWO), (125, 8))
        self.assertEqual(plan_worth(TWO, plan=SELLS_ALL), (125, 8))
        self.assertEqual(best_plan(sale=TWO), best_plan(TWO))
        self.refuses(NoSale, plan_worth, plan=None, sale=None)
        self.refuses(NoPlan, plan_worth, plan=None, sale=TWO)

    def test_the_same_again_and_nothing_changed(self):
        for sale in SALES + NO_SALES:
            self.leaves_as_it_was(best_plan, sale)
        for seed, sale in enumerate(SALES + (None, list(GOOD))):
            plans = some_plans(sale, seed) if type(sale) is tuple else ()
            for thing in OTHER_KINDS + plans + ([[[0]]], ([[0], [1]],)):
                self.leaves_as_it_was(is_plan, sale, thing)
                self.leaves_as_it_was(plan_worth, sale, thing)
        for thing in changed_things(TWO, SELLS_ALL):
            self.leaves_as_it_was(is_plan, TWO, thing)
            self.leaves_as_it_was(plan_worth, TWO, thing)

    def test_what_was_handed_in_may_be_changed_later(self):
        row = [(), (0,), (0, 1)]
        self.assertIs(is_plan(TWO, (SELLS_ALL[0], tuple(row))), True)
        row[1] = (1,)
        self.assertIs(is_plan(TWO, (SELLS_ALL[0], tuple(row))), False)
        self.assertIs(is_plan(TWO, (SELLS_ALL[0], row)), False)

    def test_truths_are_not_taken_for_numbers_told_ahead(self):
        for turn in range(2):
            self.same_fraction(plan_worth(TWO, SELLS_ALL), (125, 8))
            self.assertIs(is_plan(TWO, with_spot(SELLS_ALL, 2, 2, (False, True))), False)
            self.refuses(NoPlan, plan_worth, TWO, with_spot(SELLS_ALL, 2, 2, (0, True)))
            self.refuses(NoSale, best_plan, (True,) + LEAST_SALE[1:])


if __name__ == "__main__":
    unittest.main()
