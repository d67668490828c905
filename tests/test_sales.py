"""Tests of sales: point [10], and points [2], [3] and [4] as far as they bear on them."""

import unittest

from seatworth.sales import is_sale
from things import (
    CLASS, GOOD, GREATEST_SALE, LEAST_SALE, LONG_NO_SALES, NO_BOUNDED, NO_SALES, SALES, Cases, drawn_sales, with_class, with_part,
)


class WhatIsASale(Cases):
    def all_are(self, things, due):
        for thing in things:
            with self.subTest(thing=thing):
                self.assertIs(is_sale(thing), due)

    def test_ordinary_ones(self):
        self.all_are(SALES + (GOOD,) + drawn_sales(1, 200), True)

    def test_what_is_none(self):
        self.all_are(NO_SALES, False)

    def test_very_long_numbers(self):
        for thing in LONG_NO_SALES:
            self.assertIs(is_sale(thing), False)

    def test_the_least_and_the_greatest(self):
        self.assertIs(is_sale(LEAST_SALE), True)
        self.assertIs(is_sale(GREATEST_SALE), True)


class Bounds(Cases):
    def just(self, make, least, most):
        """From the least to the most one, each is let; beyond them none is."""
        let = [k for k in range(least - 30, most + 31) if is_sale(make(k))]
        self.assertEqual(let, list(range(least, most + 1)))
        for part in NO_BOUNDED:
            with self.subTest(part=part):
                self.assertIs(is_sale(make(part)), False)

    def test_seats(self):
        self.just(lambda k: with_part(GOOD, 0, k), 0, 12)

    def test_periods(self):
        self.just(lambda k: with_part(GOOD, 1, k), 0, 12)

    def test_cases(self):
        self.just(lambda k: (3, 4, k, ((40, 1, 1),)), 1, 24)

    def test_cases_no_fewer_than_all_shares(self):
        self.just(lambda k: with_part(GOOD, 2, k), 6, 24)

    def test_fare(self):
        self.just(lambda k: with_class(with_part(CLASS, 0, k)), 1, 99)

    def test_share(self):
        self.just(lambda k: with_class(with_part(CLASS, 1, k)), 1, 24)

    def test_size(self):
        self.just(lambda k: with_class(with_part(CLASS, 2, k)), 1, 4)

    def test_how_many_classes(self):
        let = [k for k in range(12) if is_sale((3, 4, 24, ((40, 1, 1),) * k))]
        self.assertEqual(let, [1, 2, 3, 4])

    def test_the_bounds_hold_in_each_class(self):
        for at in range(4):
            for place, most in ((0, 99), (2, 4)):
                def made(k):
                    return (3, 4, 24, with_part((CLASS,) * 4, at, with_part(CLASS, place, k)))
                with self.subTest(at=at, place=place):
                    self.just(made, 1, most)

    def test_seats_and_sizes_have_nothing_to_do_with_each_other(self):
        self.assertIs(is_sale((0, 3, 5, ((10, 1, 4),))), True)
        self.assertIs(is_sale((3, 3, 5, ((10, 1, 4), (10, 1, 1)))), True)


class Shares(Cases):
    def test_together_just_all_cases_and_one_more(self):
        for cases in range(1, 25):
            for many in range(1, 5):
                if many <= cases:
                    first = cases - many + 1
                    kinds = ((40, first, 1),) + ((25, 1, 2),) * (many - 1)
                    with self.subTest(cases=cases, kinds=kinds):
                        self.assertIs(is_sale((3, 4, cases, kinds)), True)
                        self.assertIs(is_sale((3, 4, cases, kinds[::-1])), True)
                        more = ((40, first + 1, 1),) + kinds[1:]
                        self.assertIs(is_sale((3, 4, cases, more)), False)
                        self.assertIs(is_sale((3, 4, cases, more[::-1])), False)

    def test_each_share_is_small_and_all_are_too_many(self):
        self.assertIs(is_sale((3, 4, 4, ((40, 1, 1),) * 4)), True)
        self.assertIs(is_sale((3, 4, 3, ((40, 1, 1),) * 4)), False)
        self.assertIs(is_sale((3, 4, 3, ((40, 1, 1),) * 3)), True)

    def test_fares_may_be_equal_and_in_any_order(self):
        for fares in ((40, 40), (1, 99), (99, 1), (40, 40, 40, 40), (5, 9, 5, 9)):
            self.assertIs(is_sale((3, 4, 24, tuple((fare, 2, 1) for fare in fares))), True)


class Asking(Cases):
    def test_by_place_and_by_name(self):
        self.asked_by(is_sale, "thing")
        self.assertIs(is_sale(thing=GOOD), True)
        self.assertIs(is_sale(thing=list(GOOD)), False)

    def test_what_was_handed_in_is_as_it_was(self):
        for thing in SALES + NO_SALES:
            self.leaves_as_it_was(is_sale, thing)

    def test_what_was_handed_in_may_be_changed_later(self):
        kind = [40, 3, 1]
        rows = [3, 4, 10, (tuple(kind),)]
        self.assertIs(is_sale(tuple(rows)), True)
        rows[2] = 2
        self.assertIs(is_sale(tuple(rows)), False)
        thing = (3, 4, 10, (kind,))
        self.assertIs(is_sale(thing), False)
        kind.clear()
        self.assertIs(is_sale(thing), False)
        self.assertEqual(thing, (3, 4, 10, ([],)))

    def test_alike_things_of_other_kinds_are_told_apart_in_any_order(self):
        for turn in range(2):
            self.assertIs(is_sale((1, 1, 1, ((1, 1, 1),))), True)
            for thing in (
                (True, 1, 1, ((1, 1, 1),)), (1, True, 1, ((1, 1, 1),)), (1, 1, True, ((1, 1, 1),)), (1, 1, 1, ((True, 1, 1),)),
                (1, 1, 1, ((1, True, 1),)), (1, 1, 1, ((1, 1, True),)), (False, 1, 1, ((1, 1, 1),)), (1, False, 1, ((1, 1, 1),)),
            ):
                self.assertIs(is_sale(thing), False, thing)


if __name__ == "__main__":
    unittest.main()
