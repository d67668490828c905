"""Tests of where to sell: points [30] and [31], and [2] to [5] as far as they bear on them."""

import unittest

from plainly import exact, pair, plain_opened, plain_worths
from seatworth.errors import NoClass, NoLeft, NoSale, NoSingle, NoTime
from seatworth.fractions import is_fraction
from seatworth.marks import mark, opened, seat_worth
from seatworth.worths import worth
from things import GOOD, GREAT, LONG_NO_SALES, NO_SALES, NO_WHOLES, SALES, Cases, drawn_sales

# Each size is 1; at time 2 one seat behind it is worth 50, so one of 10 is sold only where two are left.
SINGLE = (2, 2, 2, ((10, 1, 1), (90, 1, 1)))
ALL_SINGLE = tuple(sale for sale in SALES if all(kind[2] == 1 for kind in sale[3]))


class OpenedByHand(Cases):
    def told(self, sale, number, time, due):
        with self.subTest(sale=sale, number=number, time=time):
            answer = opened(sale, number, time)
            self.assertIs(type(answer), tuple)
            self.assertEqual(answer, due)
            self.assertEqual([type(left) for left in answer], [int] * len(due))

    def test_at_the_last_period_all_that_can_be_sold_is(self):
        self.told((12, 3, 5, ((1, 1, 1), (99, 1, 4))), 0, 1, tuple(range(1, 13)))
        self.told((12, 3, 5, ((1, 1, 1), (99, 1, 4))), 1, 1, tuple(range(4, 13)))

    def test_open_at_some_numbers_left(self):
        self.told(SINGLE, 0, 2, (2,))
        self.told(SINGLE, 1, 2, (1, 2))
        # Two left are worth 10, one 5 / 2 behind it: 10 and 5 / 2 are more, 30 and nothing too.
        self.told((2, 2, 4, ((10, 1, 1), (30, 1, 2))), 0, 2, (1, 2))
        self.told((2, 2, 4, ((10, 1, 1), (30, 1, 2))), 1, 2, (2,))

    def test_open_where_both_are_just_the_same(self):
        self.told((1, 2, 4, ((10, 1, 1), (30, 1, 1))), 0, 2, (1,))
        self.told((1, 2, 3, ((10, 1, 1), (30, 1, 1))), 0, 2, ())
        self.told((1, 2, 5, ((10, 1, 1), (30, 1, 1))), 0, 2, (1,))
        self.told((1, 12, 1, ((10, 1, 1),)), 0, 12, (1,))
        # By the least that can be: a quarter less than the 41 / 4 that the seat is worth behind it, a quarter more than 39 / 4.
        self.told((1, 2, 4, ((10, 1, 1), (31, 1, 1))), 0, 2, ())
        self.told((1, 2, 4, ((10, 1, 1), (29, 1, 1))), 0, 2, (1,))

    def test_open_at_no_number_left(self):
        self.told((1, 2, 2, ((10, 1, 1), (90, 1, 1))), 0, 2, ())
        self.told((0, 2, 2, ((10, 1, 1), (90, 1, 1))), 1, 2, ())
        self.told((2, 2, 2, ((10, 1, 3), (90, 1, 4))), 0, 1, ())
        self.told((3, 2, 2, ((10, 1, 3), (90, 1, 4))), 1, 1, ())

    def test_open_with_a_gap(self):
        # One of 10 breaks a pair worth 45 in the mean where two are left, but none where one or three are.
        self.told((3, 2, 2, ((10, 1, 1), (90, 1, 2))), 0, 2, (1, 3))

    def test_sizes_above_what_is_left(self):
        self.told((4, 1, 5, ((10, 1, 1), (20, 1, 2), (30, 1, 3), (40, 1, 4))), 2, 1, (3, 4))
        self.told((4, 1, 5, ((10, 1, 1), (20, 1, 2), (30, 1, 3), (40, 1, 4))), 3, 1, (4,))


class OpenedByItsWords(Cases):
    def test_sales(self):
        for sale in SALES + drawn_sales(40, 40):
            for number in range(len(sale[3])):
                for time in range(1, sale[1] + 1):
                    with self.subTest(sale=sale, number=number, time=time):
                        self.assertEqual(opened(sale, number, time), plain_opened(sale, number, time))


class SeatWorth(Cases):
    def test_by_hand(self):
        self.same_fraction(seat_worth(SINGLE, 1, 1), (50, 1))
        self.same_fraction(seat_worth(SINGLE, 1, 2), (0, 1))
        # 70 with one left, and (10 + 50 + 90 + 50) / 2 with two.
        self.same_fraction(seat_worth(SINGLE, 2, 1), (70, 1))
        self.same_fraction(seat_worth(SINGLE, 2, 2), (30, 1))
        self.same_fraction(seat_worth((2, 2, 4, ((10, 1, 1), (30, 1, 2))), 2, 2), (45, 4))
        self.same_fraction(seat_worth((2, 1, 1, ((7, 1, 2),)), 1, 1), (0, 1))
        self.same_fraction(seat_worth((2, 1, 1, ((7, 1, 2),)), 1, 2), (7, 1))

    def test_nought_at_time_nought(self):
        for sale in SALES:
            for left in range(1, sale[0] + 1):
                self.same_fraction(seat_worth(sale, 0, left), (0, 1))

    def test_by_its_words(self):
        for sale in SALES + drawn_sales(41, 40):
            for time, row in enumerate(plain_worths(sale)):
                for left in range(1, sale[0] + 1):
                    with self.subTest(sale=sale, time=time, left=left):
                        told = seat_worth(sale, time, left)
                        self.same_fraction(told, pair(row[left] - row[left - 1]))
                        self.assertIs(is_fraction(told), True)
                        self.assertGreaterEqual(told[0], 0)

    def test_all_last_seats_together_are_the_worth(self):
        for sale in drawn_sales(42, 10):
            seats, periods, cases, kinds = sale
            total = sum(exact(seat_worth(sale, periods, left)) for left in range(1, seats + 1))
            self.assertEqual(total, exact(worth(sale, periods, seats)))


class Mark(Cases):
    def test_by_hand(self):
        for sale, number, time, due in (
            (SINGLE, 0, 1, 1), (SINGLE, 1, 1, 1), (SINGLE, 0, 2, 2), (SINGLE, 1, 2, 1),
            ((1,) + SINGLE[1:], 0, 2, None), ((1,) + SINGLE[1:], 1, 2, 1), ((0,) + SINGLE[1:], 0, 1, None), ((0,) + SINGLE[1:], 1, 2, None),
            ((1, 2, 4, ((10, 1, 1), (30, 1, 1))), 0, 2, 1), ((1, 2, 3, ((10, 1, 1), (30, 1, 1))), 0, 2, None),
            # Of 1 against 99 in every other case: as many left as periods to come, else they wait for 99.
            ((12, 12, 2, ((1, 1, 1), (99, 1, 1))), 1, 12, 1), ((12, 12, 2, ((1, 1, 1), (99, 1, 1))), 0, 1, 1),
            ((12, 12, 2, ((1, 1, 1), (99, 1, 1))), 0, 12, 12), ((11, 12, 2, ((1, 1, 1), (99, 1, 1))), 0, 12, None),
        ):
            with self.subTest(sale=sale, number=number, time=time):
                told = mark(sale, number, time)
                self.assertEqual(told, due)
                self.assertIs(type(told), type(due))

    def singles(self):
        return ALL_SINGLE + drawn_sales(43, 60, most_size=1)

    def test_the_least_number_left_at_which_it_is_open(self):
        for sale in self.singles():
            for number in range(len(sale[3])):
                for time in range(1, sale[1] + 1):
                    told, numbers = mark(sale, number, time), plain_opened(sale, number, time)
                    self.assertEqual(told, min(numbers, default=None))
                    self.assertIs(type(told), int if numbers else type(None))

    def test_it_is_open_at_all_greater_ones_too(self):
        for sale in self.singles():
            for number in range(len(sale[3])):
                for time in range(1, sale[1] + 1):
                    told = mark(sale, number, time)
                    due = () if told is None else tuple(range(told, sale[0] + 1))
                    self.assertEqual(opened(sale, number, time), due)

    def test_with_more_time_and_less_fare_it_is_no_less(self):
        for sale in self.singles():
            seats, periods, cases, kinds = sale
            marks = [[mark(sale, number, time) or seats + 1 for time in range(1, periods + 1)] for number in range(len(kinds))]
            for row in marks:
                self.assertEqual(row, sorted(row))
            for one, kind in enumerate(kinds):
                for other, another in enumerate(kinds):
                    if kind[0] >= another[0]:
                        self.assertTrue(all(low <= high for low, high in zip(marks[one], marks[other])))

    def test_the_last_seats_worth_falls_with_seats_and_grows_with_time(self):
        for sale in self.singles():
            seats, periods, cases, kinds = sale
            rows = [[exact(seat_worth(sale, time, left)) for left in range(1, seats + 1)] for time in range(periods + 1)]
            for row in rows:
                self.assertEqual(row, sorted(row, reverse=True))
            for column in zip(*rows):
                self.assertEqual(list(column), sorted(column))


class Refusals(Cases):
    BAD_NUMBERS = NO_WHOLES + (-1, 2, 3, 4, GREAT, -GREAT)
    BAD_TIMES = NO_WHOLES + (-1, 0, 5, 13, GREAT, -GREAT)
    BAD_LEFTS = NO_WHOLES + (-1, 0, 4, 13, GREAT, -GREAT)
    # As GOOD, with each size 1.
    ALIKE = GOOD[:3] + (((40, 3, 1), (25, 3, 1)),)

    def test_no_sale(self):
        for asked in (opened, mark, seat_worth):
            for sale in NO_SALES:
                with self.subTest(asked=asked.__name__, sale=sale):
                    self.refuses(NoSale, asked, sale, 0, 1)
            for sale in LONG_NO_SALES:
                self.refuses(NoSale, asked, sale, 0, 1)

    def test_no_class(self):
        for asked, sale in ((opened, GOOD), (opened, self.ALIKE), (mark, self.ALIKE)):
            for number in self.BAD_NUMBERS:
                for time in range(1, 5):
                    with self.subTest(asked=asked.__name__, number=number, time=time):
                        self.refuses(NoClass, asked, sale, number, time)
            self.refuses(NoClass, asked, sale, 10 ** 5000, 1)

    def test_no_time(self):
        for asked, sale in ((opened, GOOD), (opened, self.ALIKE), (mark, self.ALIKE)):
            for time in self.BAD_TIMES:
                for number in range(2):
                    with self.subTest(asked=asked.__name__, number=number, time=time):
                        self.refuses(NoTime, asked, sale, number, time)
            self.refuses(NoTime, asked, sale, 0, 10 ** 5000)

    def test_no_time_of_the_last_seats_worth(self):
        for time in self.BAD_TIMES:
            if type(time) is not int or time != 0:
                for left in range(1, 4):
                    self.refuses(NoTime, seat_worth, GOOD, time, left)
        self.refuses(NoTime, seat_worth, GOOD, -(10 ** 5000), 1)

    def test_no_left(self):
        for left in self.BAD_LEFTS:
            for time in range(5):
                with self.subTest(time=time, left=left):
                    self.refuses(NoLeft, seat_worth, GOOD, time, left)
        self.refuses(NoLeft, seat_worth, GOOD, 0, 10 ** 5000)

    def test_the_bounds_are_those_of_the_sale(self):
        for sale in SALES:
            seats, periods, cases, kinds = sale
            for time in range(-2, 15):
                for at in range(-2, 15):
                    due = NoClass if not 0 <= at < len(kinds) else NoTime if not 1 <= time <= periods else None
                    if due:
                        self.refuses(due, opened, sale, at, time)
                        self.refuses(due, mark, sale, at, time)
                    else:
                        self.assertIs(type(opened(sale, at, time)), tuple)
                    due = NoTime if not 0 <= time <= periods else NoLeft if not 1 <= at <= seats else None
                    if due:
                        self.refuses(due, seat_worth, sale, time, at)
                    else:
                        self.assertIs(is_fraction(seat_worth(sale, time, at)), True)

    def test_not_every_size_is_one(self):
        for kinds in (
            ((40, 3, 2),), ((40, 3, 4),), ((40, 3, 1), (25, 3, 2)), ((40, 3, 2), (25, 3, 1)), ((40, 3, 1), (25, 3, 1), (9, 1, 1), (9, 1, 3)),
        ):
            for seats in (0, 1, 3, 12):
                for number in range(len(kinds)):
                    for time in (1, 4):
                        self.refuses(NoSingle, mark, (seats, 4, 10, kinds), number, time)

    def test_not_every_size_is_one_behind_all_else(self):
        for number in self.BAD_NUMBERS:
            for time in self.BAD_TIMES + (1, 4):
                self.refuses(NoClass, mark, GOOD, number, time)
        for time in self.BAD_TIMES:
            for number in range(2):
                self.refuses(NoTime, mark, GOOD, number, time)
        self.refuses(NoTime, mark, (3, 0) + GOOD[2:], 0, 1)
        self.refuses(NoSale, mark, GOOD[:3] + (((40, 3, 5),),), 0, 1)

    def test_what_stands_further_to_the_left_is_ahead(self):
        for sale in (None, [], list(GOOD), (), GOOD[:3], NO_SALES[-1]):
            for one in self.BAD_NUMBERS + (0, 1):
                for other in self.BAD_TIMES + (1,):
                    for asked in (opened, mark, seat_worth):
                        self.refuses(NoSale, asked, sale, one, other)
        for number in self.BAD_NUMBERS:
            for time in self.BAD_TIMES:
                self.refuses(NoClass, opened, GOOD, number, time)
                self.refuses(NoClass, mark, self.ALIKE, number, time)
        for time in NO_WHOLES + (-1, 5):
            for left in self.BAD_LEFTS:
                self.refuses(NoTime, seat_worth, GOOD, time, left)


class Asking(Cases):
    def test_by_places_and_by_names(self):
        self.asked_by(opened, "sale", "number", "time")
        self.asked_by(seat_worth, "sale", "time", "left")
        self.asked_by(mark, "sale", "number", "time")
        self.assertEqual(opened(sale=SINGLE, number=0, time=2), (2,))
        self.assertEqual(opened(time=2, number=0, sale=SINGLE), (2,))
        self.assertEqual(opened(SINGLE, 0, time=2), (2,))
        self.assertEqual(seat_worth(sale=SINGLE, time=1, left=2), (0, 1))
        self.assertEqual(seat_worth(left=2, time=1, sale=SINGLE), (0, 1))
        self.assertEqual(mark(sale=SINGLE, number=0, time=2), 2)
        self.assertEqual(mark(time=2, number=0, sale=SINGLE), 2)
        self.refuses(NoClass, opened, time=9, number=9, sale=SINGLE)
        self.refuses(NoTime, seat_worth, left=9, time=9, sale=SINGLE)

    def test_the_same_again_and_nothing_changed(self):
        for sale in SALES + NO_SALES:
            for places in ((0, 1), (1, 1), (9, 1), (0, 13), (None, None), ([0], [0]), ((), {})):
                for asked in (opened, mark, seat_worth):
                    self.leaves_as_it_was(asked, sale, *places)

    def test_truths_are_not_taken_for_numbers_told_ahead(self):
        for turn in range(2):
            self.assertEqual(opened(SINGLE, 1, 1), (1, 2))
            self.refuses(NoClass, opened, SINGLE, True, 1)
            self.refuses(NoTime, opened, SINGLE, 1, True)
            self.refuses(NoClass, mark, SINGLE, False, 1)
            self.refuses(NoTime, mark, SINGLE, 0, True)
            self.refuses(NoTime, seat_worth, SINGLE, True, 1)
            self.refuses(NoTime, seat_worth, SINGLE, False, 1)
            self.refuses(NoLeft, seat_worth, SINGLE, 1, True)


if __name__ == "__main__":
    unittest.main()
