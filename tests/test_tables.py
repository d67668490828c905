"""Tests of tables that bound worths: point [21], and [2] to [5] as far as they bear on them."""

import random
import unittest
from fractions import Fraction

from plainly import due_number, exact, pair, plain_bounds, plain_worths
from seatworth.errors import NoSale
from seatworth.tables import over_bound, under_bound
from seatworth.worths import worth, worths
from things import (
    GOOD, GREAT, LEAST_SALE, LONG_NO_SALES, NO_SALES, OTHER_KINDS, SALES, Cases, drawn_sales, with_part,
)

# One seat, one period, an ask of 10 in one of two cases: due at time 1 is (a + max(a, 10)) / 2 of a at time 0.
ONE = (1, 1, 2, ((10, 1, 1),))
# The same with two periods: its worths are 5, and 15 / 2.
TWO = (1, 2, 2, ((10, 1, 1),))
# Two seats, an ask of both in each of two periods: a row that falls with more seats shows which place is looked at.
PAIR = (2, 2, 1, ((7, 1, 2),))
LITTLE = (1, 10 ** 29)


def column(*numbers):
    """A table of one seat by its numbers with one seat left, none being worth nought."""
    return tuple(((0, 1), number) for number in numbers)


class ByHand(Cases):
    def told(self, sale, table, over, under):
        for asked, due in ((over_bound, over), (under_bound, under)):
            with self.subTest(asked=asked.__name__, sale=sale, table=table):
                if due is None:
                    self.assertIsNone(asked(sale, table))
                else:
                    self.same_fraction(asked(sale, table), due)

    def test_the_table_of_all_worths_is_both(self):
        self.told(ONE, column((0, 1), (5, 1)), (5, 1), (5, 1))
        self.told(TWO, column((0, 1), (5, 1), (15, 2)), (15, 2), (15, 2))
        self.told(LEAST_SALE, (((0, 1),),), (0, 1), (0, 1))
        self.told(PAIR, (((0, 1),) * 3, ((0, 1), (0, 1), (7, 1)), ((0, 1), (0, 1), (7, 1))), (7, 1), (7, 1))

    def test_from_above(self):
        self.told(ONE, column((0, 1), (6, 1)), (6, 1), None)
        self.told(ONE, column((0, 1), (GREAT, 1)), (GREAT, 1), None)
        self.told(ONE, column((3, 1), (13, 2)), (13, 2), None)
        self.told(ONE, column((20, 1), (20, 1)), (20, 1), None)
        self.told(TWO, column((0, 1), (6, 1), (8, 1)), (8, 1), None)
        self.told(TWO, column((0, 1), (5, 1), (8, 1)), (8, 1), None)
        self.told(TWO, column((0, 1), (20, 1), (20, 1)), (20, 1), None)
        self.told(LEAST_SALE, (((1, 2),),), (1, 2), None)
        self.told(ONE, (((0, 1), (0, 1)), ((1, 3), (5, 1))), (5, 1), None)

    def test_from_below(self):
        self.told(ONE, column((0, 1), (4, 1)), None, (4, 1))
        self.told(ONE, column((0, 1), (0, 1)), None, (0, 1))
        self.told(TWO, column((0, 1), (4, 1), (7, 1)), None, (7, 1))
        self.told(TWO, column((0, 1), (4, 1), (0, 1)), None, (0, 1))
        self.told(TWO, column((0, 1), (0, 1), (5, 1)), None, (5, 1))
        self.told(TWO, column((0, 1), (0, 1), (0, 1)), None, (0, 1))

    def test_from_neither(self):
        # No less than each worth, but less than is due: 13 / 2 by the 3 at time 0.
        self.told(ONE, column((3, 1), (6, 1)), None, None)
        # No greater than each worth, but greater than is due: 5 by the nought at time 1.
        self.told(TWO, column((0, 1), (0, 1), (6, 1)), None, None)
        self.told(TWO, column((0, 1), (6, 1), (7, 1)), None, None)
        self.told(TWO, column((0, 1), (4, 1), (8, 1)), None, None)
        # At time 0 nought is due, so nothing above it is from below.
        self.told(ONE, column((1, 1), (5, 1)), None, None)
        self.told(ONE, column(LITTLE, (5, 1)), None, None)
        self.told(ONE, column(LITTLE, (0, 1)), None, None)

    def test_beyond_by_a_little(self):
        more, less = Fraction(5) + exact(LITTLE), Fraction(5) - exact(LITTLE)
        self.told(ONE, column((0, 1), pair(more)), pair(more), None)
        self.told(ONE, column((0, 1), pair(less)), None, pair(less))

    def test_each_row_is_due_by_its_own_numbers(self):
        # At time 1 with two left 7 and more are due by the 9 with none left: 9 + 7, not 7.
        falling = (((9, 1), (0, 1), (0, 1)), ((9, 1), (0, 1), (16, 1)), ((9, 1), (0, 1), (16, 1)))
        self.told(PAIR, falling, (16, 1), None)
        self.told(PAIR, with_part(falling, 1, ((9, 1), (0, 1), (15, 1))), None, None)
        self.told(PAIR, with_part(falling, 2, ((9, 1), (0, 1), (15, 1))), None, None)

    def test_where_selling_brings_less_nothing_is_taken_off(self):
        # 30 with one left at time 1 is more than 10 and nothing: 30 is due at time 2 in both cases.
        self.told(TWO, column((0, 1), (30, 1), (30, 1)), (30, 1), None)
        self.told(TWO, column((0, 1), (30, 1), (29, 1)), None, None)


class ByItsWords(Cases):
    def held_against_words(self, sale, rows):
        table = tuple(tuple(map(pair, row)) for row in rows)
        over, under = plain_bounds(sale, rows)
        for asked, due in ((over_bound, over), (under_bound, under)):
            told = asked(sale, table)
            with self.subTest(asked=asked.__name__, sale=sale, table=table):
                self.assertEqual(told, due)
                self.assertIs(type(told), type(due))

    def test_all_worths(self):
        for sale in SALES + drawn_sales(30, 40):
            table = worths(sale)
            for asked in (over_bound, under_bound):
                self.same_fraction(asked(sale, table), worth(sale, sale[1], sale[0]))

    def test_one_place_beyond(self):
        for sale in ((2, 2, 4, ((10, 1, 1), (30, 1, 2))), (1, 2, 2, ((10, 1, 1), (90, 1, 1))), (3, 3, 7, ((50, 2, 3), (20, 2, 1)))):
            for step in (Fraction(1, 10 ** 29), Fraction(1, 3), Fraction(1000), Fraction(GREAT)):
                for time in range(sale[1] + 1):
                    for left in range(sale[0] + 1):
                        for change in (step, -step):
                            rows = plain_worths(sale)
                            rows[time][left] = max(Fraction(0), rows[time][left] + change)
                            self.held_against_words(sale, rows)

    def test_just_the_table_of_all_worths_is_both(self):
        for sale in ((2, 2, 4, ((10, 1, 1), (30, 1, 2))), (3, 3, 7, ((50, 2, 3), (20, 2, 1)))):
            for time in range(sale[1] + 1):
                for left in range(sale[0] + 1):
                    rows = plain_worths(sale)
                    rows[time][left] += Fraction(1, 10 ** 29)
                    table = tuple(tuple(map(pair, row)) for row in rows)
                    self.assertFalse(over_bound(sale, table) is not None and under_bound(sale, table) is not None)

    def drawn_rows(self, draw, sale, way):
        """Rows that go beyond the due numbers by drawn steps, above them (1), below them (-1), or both (0)."""
        seats, periods, cases, kinds = sale
        rows = []
        for time in range(periods + 1):
            row = []
            for left in range(seats + 1):
                due = due_number(sale, rows[-1], left) if rows else Fraction(0)
                step = Fraction(draw.choice((0, 0, 1, 7)), draw.randint(1, 30))
                row.append(max(Fraction(0), due + step * (way or draw.choice((1, -1)))))
            rows.append(row)
        return rows

    def test_drawn_tables(self):
        draw = random.Random(31)
        for sale in drawn_sales(32, 40, most_seats=5, most_periods=5):
            for way in (1, -1, 0):
                rows = self.drawn_rows(draw, sale, way)
                self.held_against_words(sale, rows)
                table = tuple(tuple(map(pair, row)) for row in rows)
                if way == 1:
                    self.assertIsNotNone(over_bound(sale, table))
                if way == -1:
                    self.assertIsNotNone(under_bound(sale, table))

    def test_what_bounds_from_above_and_below(self):
        """No worth is greater than an over table's number in its place, none less than an under table's."""
        draw = random.Random(33)
        for sale in drawn_sales(34, 30, most_seats=6, most_periods=6):
            due = plain_worths(sale)
            for way in (1, -1):
                rows = self.drawn_rows(draw, sale, way)
                for row, right in zip(rows, due):
                    for number, one in zip(row, right):
                        self.assertGreaterEqual(way * number, way * one)

    def test_one_number_throughout_bounds_from_above_where_no_fare_can_be_added(self):
        for sale in SALES:
            seats, periods, cases, kinds = sale
            rows = [[Fraction(100 * left) for left in range(seats + 1)] for time in range(periods + 1)]
            self.held_against_words(sale, rows)
            self.assertEqual(over_bound(sale, tuple(tuple(map(pair, row)) for row in rows)), (100 * seats, 1))

    def test_great_numbers(self):
        """The bottoms of a row have nothing in common, and all thirty figures."""
        sale = (12, 12, 23, ((99, 1, 4), (60, 5, 3), (31, 7, 2), (11, 9, 1)))
        rows = [
            [number + Fraction(1000 * (time + left), GREAT - 2 * time * left - 2) for left, number in enumerate(row)]
            for time, row in enumerate(plain_worths(sale))
        ]
        self.held_against_words(sale, rows)
        self.held_against_words(sale, [[number * 2 for number in row] for row in rows])
        self.held_against_words(sale, [[number / 2 for number in row] for row in rows])

    def test_far_beyond_thirty_figures(self):
        great = (3 ** 10000, 2 ** 4)
        self.assertTrue(over_bound(ONE, column((0, 1), great)) == great)
        self.assertIsNone(under_bound(ONE, column((0, 1), great)))
        small = (3 ** 10000, 2 ** 16000)
        self.assertTrue(under_bound(ONE, column((0, 1), small)) == small)
        self.assertIsNone(over_bound(ONE, column((0, 1), small)))
        self.assertIsNone(under_bound(ONE, column(small, (5, 1))))
        self.assertIsNone(over_bound(ONE, column(small, (5, 1))))


class NoTables(Cases):
    def none_is_told(self, sale, thing):
        for asked in (over_bound, under_bound):
            with self.subTest(asked=asked.__name__, sale=sale, thing=thing):
                self.assertIsNone(asked(sale, thing))

    def test_other_things_altogether(self):
        for sale in (LEAST_SALE, ONE, TWO, GOOD, (0, 2, 3, ((6, 1, 1),))):
            for thing in OTHER_KINDS + ((), ((),), (0, 1), ((0, 1),), ((0, 1), (0, 1)), sale, worths):
                self.none_is_told(sale, thing)

    def test_rows_too_many_or_too_few(self):
        for sale in SALES:
            table = worths(sale)
            for thing in (
                table[1:], table[:-1], table + table[-1:], table[:1] + table, table * 2, (), (table,), table + ((),), table + (None,),
                table[0], table[-1], table[-1][-1],
            ):
                self.none_is_told(sale, thing)

    def test_places_too_many_or_too_few(self):
        for sale in SALES:
            table = worths(sale)
            for at, row in enumerate(table):
                for other in (row[1:], row[:-1], row + row[-1:], row[:1] + row, row * 2, (), (row,), row + (None,)):
                    self.none_is_told(sale, with_part(table, at, other))
            self.none_is_told(sale, tuple(row + row[-1:] for row in table))
            self.none_is_told(sale, tuple(row[:-1] for row in table))

    def test_the_table_of_another_sale(self):
        self.none_is_told(GOOD, worths((4,) + GOOD[1:]))
        self.none_is_told(GOOD, worths((2,) + GOOD[1:]))
        self.none_is_told(GOOD, worths((3, 3) + GOOD[2:]))
        self.none_is_told(GOOD, worths((3, 5) + GOOD[2:]))

    def test_turned(self):
        self.none_is_told(ONE, worths(ONE)[::-1])
        self.none_is_told(TWO, tuple(zip(*worths(TWO))))
        self.none_is_told(TWO, worths(TWO)[::-1])

    def test_lists_in_the_place_of_tuples(self):
        for sale in (LEAST_SALE, ONE, TWO, GOOD):
            table = worths(sale)
            self.none_is_told(sale, list(table))
            self.none_is_told(sale, [list(row) for row in table])
            self.none_is_told(sale, dict(enumerate(table)))
            for at, row in enumerate(table):
                self.none_is_told(sale, with_part(table, at, list(row)))
                self.none_is_told(sale, with_part(table, at, dict(enumerate(row))))
                for place, number in enumerate(row):
                    self.none_is_told(sale, with_part(table, at, with_part(row, place, list(number))))

    def test_what_is_no_fraction_from_nought_on(self):
        things = OTHER_KINDS + (
            (0, 2), (2, 4), (10, 2), (5, 0), (0, 0), (0, -1), (-1, 1), (-1, 2), (-5, 1), (-GREAT, 1), (5, -1), (-5, -1), (), (5,),
            (0,), (5, 1, 1), (0, 1, 1), (True, 1), (False, 1), (5, True), (0, True), (None, 1), (5, None), ("5", 1), (5, "1"),
            ((5, 1),), ((5, 1), 1), ([5], 1), "51", (GREAT, GREAT),
        )
        for sale in (LEAST_SALE, ONE, TWO):
            table = worths(sale)
            for at, row in enumerate(table):
                for place in range(len(row)):
                    for thing in things:
                        self.none_is_told(sale, with_part(table, at, with_part(row, place, thing)))

    def test_a_number_below_nought_is_none_even_from_below(self):
        self.none_is_told(ONE, column((0, 1), (-1, 1)))
        self.none_is_told(ONE, column((-1, 1), (0, 1)))
        self.none_is_told(LEAST_SALE, (((-1, 10 ** 29),),))


class Asking(Cases):
    def test_no_sale(self):
        for sale in NO_SALES:
            for asked in (over_bound, under_bound):
                with self.subTest(asked=asked.__name__, sale=sale):
                    self.refuses(NoSale, asked, sale, (((0, 1),),))
        for sale in LONG_NO_SALES:
            self.refuses(NoSale, over_bound, sale, (((0, 1),),))
            self.refuses(NoSale, under_bound, sale, (((0, 1),),))

    def test_no_sale_with_no_table(self):
        for thing in OTHER_KINDS + ((), worths(ONE)):
            for asked in (over_bound, under_bound):
                self.refuses(NoSale, asked, None, thing)
                self.refuses(NoSale, asked, list(GOOD), thing)
                self.refuses(NoSale, asked, thing, thing)

    def test_by_places_and_by_names(self):
        table = column((0, 1), (6, 1))
        for asked in (over_bound, under_bound):
            self.asked_by(asked, "sale", "thing")
            self.refuses(NoSale, asked, thing=table, sale=table)
        self.same_fraction(over_bound(sale=ONE, thing=table), (6, 1))
        self.same_fraction(over_bound(thing=table, sale=ONE), (6, 1))
        self.same_fraction(over_bound(ONE, thing=table), (6, 1))
        self.same_fraction(under_bound(sale=ONE, thing=column((0, 1), (4, 1))), (4, 1))
        self.assertIsNone(under_bound(thing=table, sale=ONE))

    def test_the_same_again_and_nothing_changed(self):
        for sale in SALES + (None, list(GOOD)):
            for thing in OTHER_KINDS + (worths(GOOD), column((0, 1), (6, 1)), [[[0, 1]]], ([(0, 1)],)):
                self.leaves_as_it_was(over_bound, sale, thing)
                self.leaves_as_it_was(under_bound, sale, thing)
        for sale in SALES:
            self.leaves_as_it_was(over_bound, sale, worths(sale))
            self.leaves_as_it_was(under_bound, sale, worths(sale))

    def test_what_was_handed_in_may_be_changed_later(self):
        row = [(0, 1), (5, 1)]
        self.same_fraction(over_bound(ONE, (((0, 1), (0, 1)), tuple(row))), (5, 1))
        row[1] = (4, 1)
        self.assertIsNone(over_bound(ONE, (((0, 1), (0, 1)), tuple(row))))
        self.assertIsNone(over_bound(ONE, (((0, 1), (0, 1)), row)))

    def test_truths_are_not_taken_for_numbers_told_ahead(self):
        for turn in range(2):
            self.same_fraction(over_bound(LEAST_SALE, (((0, 1),),)), (0, 1))
            self.assertIsNone(over_bound(LEAST_SALE, (((False, 1),),)))
            self.assertIsNone(under_bound(LEAST_SALE, (((0, True),),)))


if __name__ == "__main__":
    unittest.main()
