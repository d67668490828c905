"""Tests of fractions: point [5], and points [2] and [3] as far as they bear on them."""

import copy
import math
import unittest
from fractions import Fraction

import things
from plainly import exact, pair
from seatworth import errors
from seatworth.fractions import added, fraction, is_fraction, is_less
from things import GREAT, NO_WHOLES, OTHER_KINDS

EVEN_GREAT = 10 ** 30 - 2

FRACTIONS = (
    (0, 1), (1, 1), (-1, 1), (2, 1), (-2, 1), (1, 2), (-1, 2), (2, 3), (-2, 3), (3, 2), (-3, 2),
    (5, 6), (7, 12), (-7, 12), (99, 24 ** 12 + 1), (GREAT, 1), (-GREAT, 1), (1, GREAT), (-1, GREAT),
    (GREAT, EVEN_GREAT), (-GREAT, EVEN_GREAT), (EVEN_GREAT, GREAT), (-EVEN_GREAT, GREAT),
)
NOT_LEAST = (
    (0, 2), (0, 3), (0, GREAT), (2, 2), (-2, 2), (2, 4), (-2, 4), (4, 2), (-4, 2), (3, 9), (-3, 9), (6, 4),
    (35, 49), (-35, 49), (GREAT, GREAT), (-GREAT, GREAT), (GREAT, 3), (-9, GREAT), (EVEN_GREAT, 2), (2, EVEN_GREAT),
)
BAD_BOTTOMS = (
    (0, 0), (1, 0), (-1, 0), (GREAT, 0), (0, -1), (1, -1), (-1, -1), (1, -2), (-1, -2), (2, -4), (3, -GREAT),
)
TRUTHS_INSIDE = (
    (True, 1), (False, 1), (1, True), (0, True), (1, False), (True, True), (False, True), (True, False),
    (True, 2), (3, True), (-1, True), (False, False), (False, 2),
)
NO_PAIRS = (
    (), (1,), (0,), (1, 2, 3), (0, 1, 1), (0, 1, None), (1, 2, 3, 4), ((0, 1),), ((0, 1), (0, 1)), ((0, 1), 1), (1, (0, 1)),
    ([0, 1],), (0, 1) * 2, (0, 1) * 1000,
)
NO_NUMBERS_INSIDE = (
    (None, 1), (1, None), (None, None), ("1", 1), (1, "1"), ("1", "2"), ("", ""), ([], 1), (1, []), ([1], [2]), ((), ()),
    ({}, 1), (1, {}), ({1: 2}, {1: 2}), ((1,), (2,)),
)
NO_FRACTIONS = NOT_LEAST + BAD_BOTTOMS + TRUTHS_INSIDE + NO_PAIRS + NO_NUMBERS_INSIDE + OTHER_KINDS

NUMBERS = (0, 1, -1, 2, -2, 3, 6, -12, 35, 49, 99, 10 ** 29, GREAT, -GREAT, EVEN_GREAT)


class Cases(things.Cases):
    def refused(self, asked, *places, **names):
        self.refuses(errors.NoNumber, asked, *places, **names)


class IsFraction(Cases):
    def test_fractions(self):
        for thing in FRACTIONS:
            with self.subTest(thing=thing):
                self.assertIs(is_fraction(thing), True)

    def test_what_is_none(self):
        for thing in NO_FRACTIONS:
            with self.subTest(thing=thing):
                self.assertIs(is_fraction(thing), False)

    def test_each_small_pair(self):
        for top in range(-40, 41):
            for bottom in range(-5, 41):
                due = bottom >= 1 and math.gcd(top, bottom) == 1
                self.assertIs(is_fraction((top, bottom)), due, (top, bottom))

    def test_nought_is_written_in_one_way(self):
        self.assertEqual([bottom for bottom in range(-50, 51) if is_fraction((0, bottom))], [1])

    def test_a_common_divisor_that_is_great(self):
        divisor = 10 ** 15 + 37
        self.assertIs(is_fraction((3 * divisor, 5 * divisor)), False)
        self.assertIs(is_fraction((-3 * divisor, 5 * divisor)), False)
        self.assertIs(is_fraction((3 * divisor, 5 * divisor + 1)), True)

    def test_beyond_thirty_figures(self):
        self.assertIs(is_fraction((3 ** 10000, 2 ** 16000)), True)
        self.assertIs(is_fraction((-(3 ** 10000), 2 ** 16000)), True)
        self.assertIs(is_fraction((3 * 2 ** 16000, 2 ** 16000)), False)


class MakeFraction(Cases):
    def test_least_terms(self):
        for top, bottom, due in (
            (0, 1, (0, 1)), (0, 2, (0, 1)), (0, GREAT, (0, 1)), (1, 1, (1, 1)), (2, 4, (1, 2)), (-2, 4, (-1, 2)),
            (4, 2, (2, 1)), (-4, 2, (-2, 1)), (6, 4, (3, 2)), (-6, 4, (-3, 2)), (7, 12, (7, 12)), (-7, 12, (-7, 12)),
            (35, 49, (5, 7)), (-35, 49, (-5, 7)), (GREAT, GREAT, (1, 1)), (-GREAT, GREAT, (-1, 1)), (-1, 3, (-1, 3)),
            (GREAT, 9, (GREAT // 9, 1)), (9, GREAT, (1, GREAT // 9)), (-9, GREAT, (-1, GREAT // 9)), (GREAT, 1, (GREAT, 1)),
            (1, GREAT, (1, GREAT)), (GREAT, EVEN_GREAT, (GREAT, EVEN_GREAT)), (-EVEN_GREAT, 4, (-EVEN_GREAT // 2, 2)),
        ):
            with self.subTest(top=top, bottom=bottom):
                self.same_fraction(fraction(top, bottom), due)

    def test_each_small_pair(self):
        for top in range(-40, 41):
            for bottom in range(1, 41):
                due = Fraction(top, bottom)
                self.same_fraction(fraction(top, bottom), pair(due))

    def test_what_it_tells_is_a_fraction(self):
        for top in NUMBERS:
            for bottom in NUMBERS:
                if bottom >= 1:
                    self.assertIs(is_fraction(fraction(top, bottom)), True, (top, bottom))

    def test_a_fraction_stays_what_it_is(self):
        for thing in FRACTIONS:
            self.same_fraction(fraction(thing[0], thing[1]), thing)

    def test_bottoms_below_one_are_refused(self):
        for top in NUMBERS:
            for bottom in (0, -1, -2, -3, -GREAT):
                with self.subTest(top=top, bottom=bottom):
                    self.refused(fraction, top, bottom)

    def test_no_whole_number_on_top_is_refused(self):
        for top in NO_WHOLES + OTHER_KINDS:
            if type(top) is not int:
                for bottom in (1, 2, 0, -1, GREAT):
                    with self.subTest(top=top, bottom=bottom):
                        self.refused(fraction, top, bottom)

    def test_no_whole_number_at_the_bottom_is_refused(self):
        for bottom in NO_WHOLES + OTHER_KINDS:
            if type(bottom) is not int:
                for top in (0, 1, -1, 2, GREAT):
                    with self.subTest(top=top, bottom=bottom):
                        self.refused(fraction, top, bottom)

    def test_no_whole_numbers_at_all_are_refused(self):
        for top in NO_WHOLES:
            for bottom in NO_WHOLES:
                with self.subTest(top=top, bottom=bottom):
                    self.refused(fraction, top, bottom)

    def test_beyond_thirty_figures(self):
        self.same_fraction(fraction(6 * 10 ** 5000, 4 * 10 ** 5000), (3, 2))
        self.same_fraction(fraction(-(3 ** 10000), 2 ** 16000), (-(3 ** 10000), 2 ** 16000))
        self.refused(fraction, 10 ** 5000, 0)
        self.refused(fraction, 1, -(10 ** 5000))
        self.refused(fraction, 10 ** 5000, None)


class OfTwo(Cases):
    """What `added` and `is_less` have in common: which things they refuse."""

    def test_the_first_one_is_no_fraction(self):
        for thing in NO_FRACTIONS:
            for asked in (added, is_less):
                with self.subTest(asked=asked.__name__, thing=thing):
                    self.refused(asked, thing, (1, 2))
                    self.refused(asked, thing, (0, 1))

    def test_the_second_one_is_no_fraction(self):
        for thing in NO_FRACTIONS:
            for asked in (added, is_less):
                with self.subTest(asked=asked.__name__, thing=thing):
                    self.refused(asked, (1, 2), thing)
                    self.refused(asked, (0, 1), thing)

    def test_both_are_no_fractions(self):
        for thing in NO_FRACTIONS:
            for other in (thing, None, (2, 4), (1, 0), True, [0, 1]):
                for asked in (added, is_less):
                    with self.subTest(asked=asked.__name__, thing=thing, other=other):
                        self.refused(asked, thing, other)
                        self.refused(asked, other, thing)

    def test_very_long_numbers_are_refused_alike(self):
        for asked in (added, is_less):
            self.refused(asked, (2 * 10 ** 5000, 2), (0, 1))
            self.refused(asked, (0, 1), (10 ** 5000, 0))


class Added(Cases):
    def test_told_ones(self):
        for one, other, due in (
            ((0, 1), (0, 1), (0, 1)), ((1, 2), (0, 1), (1, 2)), ((0, 1), (-1, 2), (-1, 2)), ((1, 2), (1, 2), (1, 1)),
            ((1, 2), (-1, 2), (0, 1)), ((-1, 2), (-1, 2), (-1, 1)), ((1, 2), (1, 3), (5, 6)), ((1, 2), (-1, 3), (1, 6)),
            ((-1, 2), (1, 3), (-1, 6)), ((1, 6), (1, 3), (1, 2)), ((5, 6), (7, 6), (2, 1)), ((3, 4), (5, 1), (23, 4)),
            ((GREAT, 1), (1, 1), (10 ** 30, 1)), ((GREAT, 1), (-GREAT, 1), (0, 1)), ((1, GREAT), (-1, GREAT), (0, 1)),
        ):
            with self.subTest(one=one, other=other):
                self.same_fraction(added(one, other), due)

    def test_each_two(self):
        for one in FRACTIONS:
            for other in FRACTIONS:
                due = exact(one) + exact(other)
                with self.subTest(one=one, other=other):
                    self.same_fraction(added(one, other), pair(due))
                    self.same_fraction(added(other, one), pair(due))

    def test_what_it_tells_may_be_handed_in_again(self):
        told, due = (0, 1), Fraction(0)
        for k in range(60):
            one = fraction((-1) ** k * (GREAT - 2 * k), EVEN_GREAT - 3 * k)
            told, due = added(told, one), due + exact(one)
            self.same_fraction(told, pair(due))
            self.assertIs(is_fraction(told), True)

    def test_far_beyond_thirty_figures(self):
        one, other = (1, 2 ** 16000), (1, 3 ** 10000)
        self.same_fraction(added(one, other), (2 ** 16000 + 3 ** 10000, 2 ** 16000 * 3 ** 10000))
        self.same_fraction(added(one, one), (1, 2 ** 15999))


class IsLess(Cases):
    def test_told_ones(self):
        for one, other, due in (
            ((0, 1), (0, 1), False), ((0, 1), (1, 2), True), ((1, 2), (0, 1), False), ((-1, 2), (0, 1), True),
            ((0, 1), (-1, 2), False), ((1, 3), (1, 2), True), ((1, 2), (1, 3), False), ((-1, 2), (-1, 3), True),
            ((-1, 3), (-1, 2), False), ((-5, 1), (1, 9), True), ((2, 3), (3, 4), True), ((3, 4), (2, 3), False),
            ((5, 7), (5, 7), False), ((-5, 7), (-5, 7), False), ((9, 10), (2, 1), True), ((2, 1), (9, 10), False),
            ((EVEN_GREAT, GREAT), (1, 1), True), ((1, 1), (GREAT, EVEN_GREAT), True), ((GREAT, 1), (GREAT, 1), False),
        ):
            with self.subTest(one=one, other=other):
                self.assertIs(is_less(one, other), due)

    def test_each_two(self):
        for one in FRACTIONS:
            for other in FRACTIONS:
                with self.subTest(one=one, other=other):
                    self.assertIs(is_less(one, other), exact(one) < exact(other))

    def test_a_difference_that_is_very_small(self):
        one, other = (GREAT - 1, GREAT), (GREAT - 2, GREAT - 1)
        self.assertIs(is_less(other, one), True)
        self.assertIs(is_less(one, other), False)

    def test_far_beyond_thirty_figures(self):
        one, other = (10 ** 5000, 10 ** 5000 + 1), (10 ** 5000 + 1, 10 ** 5000 + 2)
        self.assertIs(is_less(one, other), True)
        self.assertIs(is_less(other, one), False)


class Asking(Cases):
    """Point [3]: places and names, the same again, nothing changed, nothing kept."""

    def test_the_names_of_the_arguments(self):
        self.asked_by(is_fraction, "thing")
        self.asked_by(fraction, "top", "bottom")
        self.asked_by(added, "one", "other")
        self.asked_by(is_less, "one", "other")

    def test_by_names(self):
        self.assertIs(is_fraction(thing=(1, 2)), True)
        self.assertIs(is_fraction(thing=[1, 2]), False)
        self.same_fraction(fraction(top=6, bottom=4), (3, 2))
        self.same_fraction(fraction(bottom=4, top=6), (3, 2))
        self.same_fraction(fraction(6, bottom=4), (3, 2))
        self.same_fraction(added(one=(1, 2), other=(1, 3)), (5, 6))
        self.same_fraction(added((1, 2), other=(1, 3)), (5, 6))
        self.assertIs(is_less(one=(1, 3), other=(1, 2)), True)
        self.assertIs(is_less(other=(1, 3), one=(1, 2)), False)
        self.assertIs(is_less((1, 3), other=(1, 2)), True)

    def test_refused_by_names(self):
        self.refused(fraction, top=1, bottom=0)
        self.refused(fraction, bottom=1, top=None)
        self.refused(added, one=(2, 4), other=(1, 2))
        self.refused(added, other=(2, 4), one=(1, 2))
        self.refused(is_less, one=(2, 4), other=(1, 2))
        self.refused(is_less, other=(2, 4), one=(1, 2))

    def test_no_argument_may_be_left_out(self):
        for asked in (is_fraction, fraction, added, is_less):
            with self.assertRaises(TypeError):
                asked()
        for asked in (fraction, added, is_less):
            with self.assertRaises(TypeError):
                asked((1, 2))

    def test_the_same_again(self):
        for turn in range(3):
            self.same_fraction(fraction(-6, 4), (-3, 2))
            self.same_fraction(added((1, 2), (1, 6)), (2, 3))
            self.assertIs(is_less((1, 3), (1, 2)), True)
            self.assertIs(is_fraction((1, 3)), True)
            self.assertIs(is_fraction((3, 3)), False)
            self.refused(fraction, 6, -turn)
            self.refused(added, (1, 2), (3, 6))
            self.refused(is_less, (3, 6), (1, 2))

    def test_what_was_handed_in_is_as_it_was(self):
        for thing in NO_FRACTIONS + FRACTIONS:
            kept, shown = copy.deepcopy(thing), repr(thing)
            is_fraction(thing)
            for asked in (fraction, added, is_less):
                for places in ((thing, (1, 2)), ((1, 2), thing), (thing, 1), (1, thing), (thing, thing)):
                    try:
                        asked(*places)
                    except errors.NoNumber:
                        pass
            self.assertEqual(thing, kept)
            self.assertEqual(repr(thing), shown)

    def test_what_was_handed_in_may_be_changed_later(self):
        inner = [1]
        thing = (inner, 2)
        self.assertIs(is_fraction(thing), False)
        inner.append(3)
        self.assertIs(is_fraction(thing), False)
        self.assertEqual(thing, ([1, 3], 2))
        rows = [1, 2]
        self.assertIs(is_fraction(rows), False)
        self.assertIs(is_fraction(tuple(rows)), True)
        rows[0] = 4
        self.assertIs(is_fraction(tuple(rows)), False)

    def test_alike_things_of_other_kinds_are_told_apart_in_any_order(self):
        for turn in range(2):
            self.assertIs(is_fraction((1, 1)), True)
            self.assertIs(is_fraction((True, 1)), False)
            self.assertIs(is_fraction((1, True)), False)
            self.same_fraction(fraction(1, 1), (1, 1))
            self.refused(fraction, True, 1)
            self.refused(fraction, 1, True)
            self.same_fraction(added((0, 1), (1, 1)), (1, 1))
            self.refused(added, (False, 1), (1, 1))
            self.refused(is_less, (0, 1), (1, True))


if __name__ == "__main__":
    unittest.main()
