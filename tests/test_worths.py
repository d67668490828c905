"""Tests of worths: points [20] and [21] (the table of all worths), and [2] to [5] as far as they bear on them."""

import unittest
from fractions import Fraction

from plainly import exact, most_of_all_deciders, pair, plain_worths
from seatworth.errors import NoLeft, NoSale, NoTime
from seatworth.fractions import is_fraction
from seatworth.worths import worth, worths
from things import (
    GOOD, GREAT, GREATEST_SALE, LEAST_SALE, LONG_NO_SALES, NO_SALES, NO_WHOLES, SALES, Cases, drawn_sales,
)

BY_HAND = (
    # One seat, one period, an ask in one of two cases.
    ((1, 1, 2, ((10, 1, 1),)), (((0, 1), (0, 1)), ((0, 1), (5, 1)))),
    # Two periods: 10 is more than 5 behind it, so (5 + 10) / 2.
    ((1, 2, 2, ((10, 1, 1),)), (((0, 1), (0, 1)), ((0, 1), (5, 1)), ((0, 1), (15, 2)))),
    # An ask always comes; 10 is less than 50 behind it, so it is kept for one of 90: (50 + 90) / 2.
    ((1, 2, 2, ((10, 1, 1), (90, 1, 1))), (((0, 1), (0, 1)), ((0, 1), (50, 1)), ((0, 1), (70, 1)))),
    # 10 is just what the seat is worth behind it: (2 * 10 + 10 + 30) / 4.
    ((1, 2, 4, ((10, 1, 1), (30, 1, 1))), (((0, 1), (0, 1)), ((0, 1), (10, 1)), ((0, 1), (15, 1)))),
    # A size of 2 is not sold of one seat left.
    (
        (2, 2, 4, ((10, 1, 1), (30, 1, 2))),
        (((0, 1),) * 3, ((0, 1), (5, 2), (10, 1)), ((0, 1), (35, 8), (125, 8))),
    ),
    # Equal fares of two classes are as one class with both shares.
    ((1, 2, 3, ((6, 1, 1), (6, 1, 1))), (((0, 1), (0, 1)), ((0, 1), (4, 1)), ((0, 1), (16, 3)))),
    # The fare is for all seats of the ask together.
    ((2, 1, 1, ((7, 1, 2),)), (((0, 1),) * 3, ((0, 1), (0, 1), (7, 1)))),
    # In all cases the same ask comes.
    ((2, 3, 24, ((99, 24, 1),)), (((0, 1),) * 3, ((0, 1), (99, 1), (99, 1)), ((0, 1), (99, 1), (198, 1)), ((0, 1), (99, 1), (198, 1)))),
    # No ask can ever be sold.
    ((2, 3, 24, ((99, 24, 3),)), (((0, 1),) * 3,) * 4),
    # No seat, no period, neither.
    ((0, 2, 3, ((6, 1, 1),)), (((0, 1),),) * 3),
    ((2, 0, 3, ((6, 1, 1),)), (((0, 1),) * 3,)),
    (LEAST_SALE, (((0, 1),),)),
)


class ByHand(Cases):
    def test_worth(self):
        for sale, table in BY_HAND:
            for time, row in enumerate(table):
                for left, due in enumerate(row):
                    with self.subTest(sale=sale, time=time, left=left):
                        self.same_fraction(worth(sale, time, left), due)

    def test_worths(self):
        for sale, table in BY_HAND:
            with self.subTest(sale=sale):
                self.assertEqual(worths(sale), table)


class ByItsWords(Cases):
    def held_against_words(self, sale):
        told, due = worths(sale), plain_worths(sale)
        self.assertIs(type(told), tuple)
        self.assertEqual(told, tuple(tuple(map(pair, row)) for row in due))
        for time, row in enumerate(told):
            self.assertIs(type(row), tuple)
            for left, number in enumerate(row):
                self.same_fraction(number, pair(due[time][left]))
                self.same_fraction(worth(sale, time, left), number)
                self.assertIs(is_fraction(number), True)

    def test_told_sales(self):
        for sale in SALES:
            with self.subTest(sale=sale):
                self.held_against_words(sale)

    def test_drawn_sales(self):
        for sale in drawn_sales(20, 60):
            with self.subTest(sale=sale):
                self.held_against_words(sale)

    def test_the_bounds_all_at_once(self):
        """Within reach whatever the machine: the table is told again and again."""
        for turn in range(20):
            self.assertEqual(worths(GREATEST_SALE), worths(GREATEST_SALE))
        self.same_fraction(worth(GREATEST_SALE, 12, 12), (297, 1))
        self.held_against_words((12, 12, 24, ((99, 1, 1), (98, 1, 2), (97, 1, 3), (96, 1, 4))))

    def test_great_numbers_in_least_terms(self):
        told = worth((1, 12, 23, ((97, 1, 1),)), 12, 1)
        self.same_fraction(told, (97 * (23 ** 12 - 22 ** 12), 23 ** 12))
        self.same_fraction(worth((12, 12, 24, ((1, 1, 1),)), 12, 12), (1, 2))
        self.same_fraction(worth((12, 11, 24, ((24, 5, 1),)), 11, 12), (55, 1))

    def test_the_most_of_each_way_to_decide(self):
        for sale in (
            (2, 2, 3, ((10, 1, 1), (35, 1, 2))), (2, 2, 2, ((10, 1, 1), (15, 1, 2))), (1, 3, 3, ((5, 1, 1), (20, 1, 1))),
            (1, 3, 2, ((5, 1, 1), (9, 1, 1))), (2, 2, 2, ((9, 1, 1), (9, 1, 1))), (0, 2, 2, ((9, 1, 1),)), (2, 3, 2, ((8, 1, 2),)),
        ):
            with self.subTest(sale=sale):
                self.same_fraction(worth(sale, sale[1], sale[0]), pair(most_of_all_deciders(sale)))


class WhatFollows(Cases):
    def test_nought_at_time_nought_and_of_no_seat(self):
        for sale in SALES + drawn_sales(21, 20):
            for left in range(sale[0] + 1):
                self.same_fraction(worth(sale, 0, left), (0, 1))
            for time in range(sale[1] + 1):
                self.same_fraction(worth(sale, time, 0), (0, 1))

    def test_more_seats_and_more_time_are_worth_no_less(self):
        for sale in SALES + drawn_sales(22, 40):
            rows = [[exact(number) for number in row] for row in worths(sale)]
            for row in rows:
                self.assertEqual(row, sorted(row))
            for column in zip(*rows):
                self.assertEqual(list(column), sorted(column))

    def test_fewer_seats_of_the_sale_have_the_same_worths(self):
        for seats in range(13):
            for periods in range(13):
                sale = (seats, periods, 10, ((40, 3, 1), (25, 3, 2)))
                self.assertEqual(worth(sale, periods, seats), worth((12, 12) + sale[2:], periods, seats))

    def test_the_order_of_the_classes_is_nothing_to_it(self):
        for sale in SALES + drawn_sales(23, 20):
            self.assertEqual(worths(sale), worths(sale[:3] + (sale[3][::-1],)))

    def test_shares_and_cases_grown_alike_are_the_same(self):
        for sale in drawn_sales(24, 30):
            seats, periods, cases, kinds = sale
            if cases <= 12:
                grown = (seats, periods, 2 * cases, tuple((fare, 2 * share, size) for fare, share, size in kinds))
                self.assertEqual(worths(sale), worths(grown))

    def test_seats_for_each_ask_bring_each_fare(self):
        """With seats for all that may come, each ask is sold: periods times the mean fare."""
        for sale in ((12, 12, 23, ((97, 5, 1), (31, 2, 1))), (12, 3, 7, ((50, 2, 4), (20, 3, 1))), (12, 6, 9, ((10, 9, 2),))):
            mean = sum((Fraction(fare * share, sale[2]) for fare, share, size in sale[3]), Fraction(0))
            self.same_fraction(worth(sale, sale[1], 12), pair(sale[1] * mean))


class Refusals(Cases):
    BAD_TIMES = NO_WHOLES + (-1, 5, 13, GREAT, -GREAT)
    BAD_LEFTS = NO_WHOLES + (-1, 4, 13, GREAT, -GREAT)

    def test_no_sale(self):
        for sale in NO_SALES:
            with self.subTest(sale=sale):
                self.refuses(NoSale, worth, sale, 0, 0)
                self.refuses(NoSale, worths, sale)

    def test_no_sale_with_very_long_numbers(self):
        for sale in LONG_NO_SALES:
            self.refuses(NoSale, worth, sale, 0, 0)
            self.refuses(NoSale, worths, sale)

    def test_no_time(self):
        for time in self.BAD_TIMES:
            for left in range(4):
                with self.subTest(time=time, left=left):
                    self.refuses(NoTime, worth, GOOD, time, left)
        self.refuses(NoTime, worth, GOOD, 10 ** 5000, 0)

    def test_no_left(self):
        for left in self.BAD_LEFTS:
            for time in range(5):
                with self.subTest(time=time, left=left):
                    self.refuses(NoLeft, worth, GOOD, time, left)
        self.refuses(NoLeft, worth, GOOD, 0, -(10 ** 5000))

    def test_the_bounds_are_those_of_the_sale(self):
        for sale in SALES:
            seats, periods, cases, kinds = sale
            for time in range(-3, 16):
                for left in range(-3, 16):
                    if not 0 <= time <= periods:
                        self.refuses(NoTime, worth, sale, time, left)
                    elif not 0 <= left <= seats:
                        self.refuses(NoLeft, worth, sale, time, left)
                    else:
                        self.assertIs(is_fraction(worth(sale, time, left)), True)

    def test_what_stands_further_to_the_left_is_ahead(self):
        for sale in (None, [], list(GOOD), (), GOOD[:3], NO_SALES[-1]):
            for time in self.BAD_TIMES + (0,):
                for left in self.BAD_LEFTS + (0,):
                    self.refuses(NoSale, worth, sale, time, left)
        for time in self.BAD_TIMES:
            for left in self.BAD_LEFTS:
                self.refuses(NoTime, worth, GOOD, time, left)


class Asking(Cases):
    def test_by_places_and_by_names(self):
        self.asked_by(worth, "sale", "time", "left")
        self.asked_by(worths, "sale")
        due = worth(GOOD, 2, 3)
        self.assertEqual(worth(sale=GOOD, time=2, left=3), due)
        self.assertEqual(worth(left=3, time=2, sale=GOOD), due)
        self.assertEqual(worth(GOOD, 2, left=3), due)
        self.assertNotEqual(due, worth(GOOD, 3, 2))
        self.assertEqual(worths(sale=GOOD), worths(GOOD))
        self.refuses(NoTime, worth, left=9, time=9, sale=GOOD)
        self.refuses(NoSale, worths, sale=None)

    def test_the_same_again_and_nothing_changed(self):
        for sale in SALES + NO_SALES:
            self.leaves_as_it_was(worths, sale)
            for time, left in ((0, 0), (1, 1), (13, 0), (0, 13), (None, None), ([0], [0])):
                self.leaves_as_it_was(worth, sale, time, left)

    def test_a_refusal_changes_nothing(self):
        due = worths(GOOD)
        for places in ((None, 0, 0), (GOOD, 5, 0), (GOOD, 0, 4)):
            self.assertRaises(ValueError, worth, *places)
            self.assertEqual(worths(GOOD), due)

    def test_truths_are_not_taken_for_numbers_told_ahead(self):
        for turn in range(2):
            self.same_fraction(worth((1, 1, 1, ((1, 1, 1),)), 1, 1), (1, 1))
            self.refuses(NoSale, worth, (True, 1, 1, ((1, 1, 1),)), 1, 1)
            self.refuses(NoTime, worth, (1, 1, 1, ((1, 1, 1),)), True, 1)
            self.refuses(NoLeft, worth, (1, 1, 1, ((1, 1, 1),)), 1, True)
            self.refuses(NoSale, worths, (1, 1, 1, ((1, True, 1),)))


if __name__ == "__main__":
    unittest.main()
