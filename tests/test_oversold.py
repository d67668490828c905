"""Tests of seats sold beyond those there are: point [50], and [2] to [5] as far as they bear on them."""

import random
import unittest

from plainly import amends_one_by_one, pair, plain_amends, plain_oversold
from seatworth.errors import NoAmends, NoLimit, NoNumber, NoSale, NoShow
from seatworth.fractions import is_fraction, is_less
from seatworth.oversold import amends_mean, least_limit, worth_oversold
from seatworth.worths import worth
from things import GOOD, GREAT, GREATEST_SALE, LEAST_SALE, LONG_NO_SALES, NO_SALES, NO_WHOLES, SALES, Cases, drawn_sales

# One seat; in each of three periods an ask of 10.
ONE = (1, 3, 1, ((10, 1, 1),))
SHOWS = ((1, 1), (0, 1), (0, 12), (12, 12), (1, 12), (11, 12), (1, 2), (2, 4), (5, 7))
NO_SHOWS = NO_WHOLES[:9] + (
    (1,), (), (1, 2, 3), (1, 0), (0, 0), (-1, 1), (2, 1), (13, 12), (1, 13), (13, 13), (12, 13), (0, 13), (1, -1), (-1, -1), (-2, -1),
    (True, 1), (1, True), (False, 1), (True, True), (None, 1), (1, None), ("1", 1), (1, "1"), ([1], 1), (1, [1]), ((1,), 1), [1, 1],
    [1, 2], "11", "1/2", {1: 1, 2: 2}, {0: 1, 1: 1}, ((1, 1),), ((1, 1), (1, 1)), (GREAT, GREAT), (0, GREAT), (1, 2, None), 0, 1, -1,
)
NO_AMENDS = NO_WHOLES + (-1, 100, 101, GREAT, -GREAT)
LEFT_OUT = {"show": (1, 1), "amends": 0}


class AmendsMean(Cases):
    def test_by_hand(self):
        # All come: as many beyond as are sold beyond.
        for sold in range(17):
            self.same_fraction(amends_mean(GOOD, sold, amends=7), (7 * max(0, sold - 3), 1))
            self.same_fraction(amends_mean(GOOD, sold, show=(12, 12), amends=7), (7 * max(0, sold - 3), 1))
            self.same_fraction(amends_mean(GOOD, sold, show=(0, 5), amends=7), (0, 1))
            self.same_fraction(amends_mean(GOOD, sold, show=(1, 2), amends=0), (0, 1))
            self.same_fraction(amends_mean(GOOD, sold), (0, 1))
            self.same_fraction(amends_mean(GOOD, sold, show=(1, 2)), (0, 1))
        # Two holders of one seat: both come in one of four cases.
        self.same_fraction(amends_mean(ONE, 2, show=(1, 2), amends=20), (5, 1))
        # Three holders: two come in three of eight cases, three in one.
        self.same_fraction(amends_mean(ONE, 3, show=(1, 2), amends=20), (25, 2))
        # The first holder stays away by two of three, the other one too: 1 / 9.
        self.same_fraction(amends_mean(ONE, 2, show=(1, 3), amends=99), (11, 1))
        self.same_fraction(amends_mean(ONE, 2, show=(4, 12), amends=99), (11, 1))
        self.same_fraction(amends_mean(ONE, 2, show=(2, 3), amends=99), (44, 1))
        # No seat: each that comes is beyond.
        self.same_fraction(amends_mean(LEAST_SALE, 16, show=(11, 12), amends=99), (16 * 11 * 99 // 12, 1))
        self.same_fraction(amends_mean(LEAST_SALE, 1, show=(1, 12), amends=1), (1, 12))
        self.same_fraction(amends_mean((12,) + GOOD[1:], 16, show=(1, 1), amends=99), (396, 1))
        self.same_fraction(amends_mean((12,) + GOOD[1:], 13, show=(1, 2), amends=1), (1, 2 ** 13))

    def test_each_case_of_each_holder(self):
        for seats in range(4):
            for show in ((1, 2), (1, 3), (2, 3), (0, 2), (3, 3), (2, 4)):
                for sold in range(7):
                    due = amends_one_by_one(seats, sold, show, 13)
                    self.same_fraction(amends_mean((seats,) + GOOD[1:], sold, show=show, amends=13), pair(due))

    def test_by_its_words(self):
        for seats in range(13):
            for show in SHOWS:
                for sold in range(17):
                    for amends in (0, 1, 99):
                        told = amends_mean((seats,) + GOOD[1:], sold, show=show, amends=amends)
                        self.same_fraction(told, pair(plain_amends(seats, sold, show, amends)))
                        self.assertIs(is_fraction(told), True)

    def test_of_the_sale_only_the_seats_count(self):
        for sale in ((3, 0, 1, ((1, 1, 1),)), (3, 12, 24, ((99, 24, 4),)), GOOD):
            self.assertEqual(amends_mean(sale, 9, show=(5, 7), amends=70), amends_mean(GOOD, 9, show=(5, 7), amends=70))


class WorthOversold(Cases):
    def test_by_hand(self):
        # One seat, no amends: each of three asks is sold, as far as the limit goes.
        for limit, due in ((1, 10), (2, 20), (3, 30), (4, 30), (16, 30)):
            self.same_fraction(worth_oversold(ONE, limit), (due, 1))
            self.same_fraction(worth_oversold(ONE, limit, show=(0, 3), amends=99), (due, 1))
        # All come: an ask beyond the seat brings 10 and costs 4, or 10, or 11.
        self.same_fraction(worth_oversold(ONE, 3, amends=4), (22, 1))
        self.same_fraction(worth_oversold(ONE, 3, amends=10), (10, 1))
        self.same_fraction(worth_oversold(ONE, 3, amends=11), (10, 1))
        # Each comes in one of two cases: 2 sold cost 5 in the mean, 3 cost 25 / 2.
        self.same_fraction(worth_oversold(ONE, 1, show=(1, 2), amends=20), (10, 1))
        self.same_fraction(worth_oversold(ONE, 2, show=(1, 2), amends=20), (15, 1))
        self.same_fraction(worth_oversold(ONE, 3, show=(1, 2), amends=20), (35, 2))
        self.same_fraction(worth_oversold(ONE, 16, show=(1, 2), amends=20), (35, 2))
        # No seat at all: 10 are worth a chance of one in twelve of 99.
        none = (0, 1, 1, ((10, 1, 1),))
        self.same_fraction(worth_oversold(none, 0, show=(1, 12), amends=99), (0, 1))
        self.same_fraction(worth_oversold(none, 1, show=(1, 12), amends=99), (7, 4))
        self.same_fraction(worth_oversold(none, 16, show=(12, 12), amends=99), (0, 1))

    def test_sizes_count_against_the_limit(self):
        sale = (1, 2, 1, ((50, 1, 4),))
        for limit, due in ((1, 0), (3, 0), (4, 50), (7, 50), (8, 100), (9, 100), (16, 100)):
            self.same_fraction(worth_oversold(sale, limit), (due, 1))
        # Four sold of one seat: three beyond it, if all come.
        self.same_fraction(worth_oversold(sale, 4, amends=10), (20, 1))
        self.same_fraction(worth_oversold(sale, 8, amends=10), (30, 1))
        self.same_fraction(worth_oversold(sale, 16, amends=17), (0, 1))
        self.same_fraction(worth_oversold(sale, 16, amends=16), (2, 1))
        # The second ask costs 4 * 12, and brings 50; the first one costs 3 * 12.
        self.same_fraction(worth_oversold(sale, 8, amends=12), (16, 1))

    def test_nought_at_least(self):
        for sale in SALES:
            for limit in range(sale[0], 17):
                told = worth_oversold(sale, limit, show=(1, 1), amends=99)
                self.assertIs(is_less(told, (0, 1)), False)
        self.same_fraction(worth_oversold((0, 3, 2, ((5, 1, 1),)), 16, show=(11, 12), amends=99), (0, 1))

    def test_by_its_words(self):
        draw = random.Random(70)
        for sale in SALES + drawn_sales(71, 25):
            for limit in sorted({sale[0], 16, draw.randint(sale[0], 16)}):
                for show in draw.sample(SHOWS, 2):
                    for amends in (0, 99, draw.randint(1, 98)):
                        told = worth_oversold(sale, limit, show=show, amends=amends)
                        self.same_fraction(told, pair(plain_oversold(sale, limit, show, amends)))
                        self.assertIs(is_fraction(told), True)

    def test_the_limit_of_just_the_seats_is_worth_the_sale(self):
        for sale in SALES + drawn_sales(72, 30):
            for show in SHOWS:
                for amends in (0, 50, 99):
                    told = worth_oversold(sale, sale[0], show=show, amends=amends)
                    self.same_fraction(told, worth(sale, sale[1], sale[0]))

    def test_no_amends_are_as_so_many_seats(self):
        for sale in drawn_sales(73, 20, most_seats=6):
            for limit in range(sale[0], 13):
                told = worth_oversold(sale, limit, show=(5, 7), amends=0)
                self.same_fraction(told, worth((limit,) + sale[1:], sale[1], limit))
                self.same_fraction(worth_oversold(sale, limit, show=(0, 7), amends=99), told)

    def test_a_greater_limit_is_worth_no_less(self):
        for sale in SALES + drawn_sales(74, 20):
            for show, amends in (((1, 1), 30), ((5, 7), 99), ((11, 12), 10)):
                told = [worth_oversold(sale, limit, show=show, amends=amends) for limit in range(sale[0], 17)]
                for one, other in zip(told, told[1:]):
                    self.assertIs(is_less(other, one), False)

    def test_the_bounds_all_at_once(self):
        for turn in range(20):
            self.same_fraction(worth_oversold(GREATEST_SALE, 16, show=(0, 12), amends=99), (396, 1))


class LeastLimit(Cases):
    def test_by_hand(self):
        self.same_number(least_limit(ONE), 3)
        self.same_number(least_limit(ONE, show=(0, 3), amends=99), 3)
        self.same_number(least_limit(ONE, amends=9), 3)
        self.same_number(least_limit(ONE, amends=10), 1)
        self.same_number(least_limit(ONE, amends=99), 1)
        self.same_number(least_limit(ONE, show=(1, 2), amends=20), 3)
        # The third holder costs 15 / 2 at amends of 20, 45 / 4 at 30; the second one 5 and 15 / 2.
        self.same_number(least_limit(ONE, show=(1, 2), amends=30), 2)
        self.same_number(least_limit((1, 2, 1, ((50, 1, 4),))), 8)
        self.same_number(least_limit((1, 2, 1, ((50, 1, 4),)), amends=12), 8)
        self.same_number(least_limit((1, 2, 1, ((50, 1, 4),)), amends=13), 4)
        self.same_number(least_limit((1, 2, 1, ((50, 1, 4),)), amends=17), 1)
        # At all periods as many are asked for as no limit holds.
        self.same_number(least_limit((0, 12, 1, ((50, 1, 4),))), 16)
        self.same_number(least_limit((12, 12, 1, ((50, 1, 4),))), 16)
        self.same_number(least_limit(LEAST_SALE), 0)
        self.same_number(least_limit((12, 0, 1, ((50, 1, 4),))), 12)
        # Seats that are never asked for: the least limit is from seats on all the same.
        self.same_number(least_limit((12, 1, 1, ((50, 1, 1),))), 12)

    def test_by_its_words(self):
        draw = random.Random(75)
        for sale in SALES + drawn_sales(76, 25):
            show, amends = draw.choice(SHOWS), draw.randint(0, 99)
            most = plain_oversold(sale, 16, show, amends)
            due = next(limit for limit in range(sale[0], 17) if plain_oversold(sale, limit, show, amends) == most)
            self.same_number(least_limit(sale, show=show, amends=amends), due)

    def test_its_worth_is_that_of_16_and_the_one_below_is_less(self):
        for sale in drawn_sales(77, 30):
            for show, amends in (((1, 1), 30), ((5, 7), 99), ((1, 2), 60)):
                told = least_limit(sale, show=show, amends=amends)
                most = worth_oversold(sale, 16, show=show, amends=amends)
                self.assertEqual(worth_oversold(sale, told, show=show, amends=amends), most)
                if told > sale[0]:
                    self.assertIs(is_less(worth_oversold(sale, told - 1, show=show, amends=amends), most), True)


class Refusals(Cases):
    def asked(self, sale=GOOD, second=5, **names):
        """What each function tells or refuses, with a limit or a number sold in the second place."""
        return (
            lambda: amends_mean(sale, second, **names),
            lambda: worth_oversold(sale, second, **names),
            lambda: least_limit(sale, **names),
        )

    def test_no_sale(self):
        for sale in NO_SALES + LONG_NO_SALES:
            for ask in self.asked(sale):
                self.refuses(NoSale, ask)

    def test_no_number_sold(self):
        for sold in NO_WHOLES + (-1, 17, 18, GREAT, -GREAT):
            with self.subTest(sold=sold):
                self.refuses(NoNumber, amends_mean, GOOD, sold)
        self.refuses(NoNumber, amends_mean, GOOD, 10 ** 5000)

    def test_sold_numbers_at_and_beyond_their_bounds(self):
        for sale in SALES:
            let = []
            for sold in range(-20, 40):
                try:
                    let.append((sold, amends_mean(sale, sold))[0])
                except NoNumber:
                    continue
            self.assertEqual(let, list(range(17)))

    def test_no_limit(self):
        for limit in NO_WHOLES + (-1, 0, 1, 2, 17, 18, GREAT, -GREAT):
            with self.subTest(limit=limit):
                self.refuses(NoLimit, worth_oversold, GOOD, limit)
        self.refuses(NoLimit, worth_oversold, GOOD, 10 ** 5000)

    def test_limits_at_and_beyond_their_bounds(self):
        for seats in range(13):
            let = []
            for limit in range(-20, 40):
                try:
                    let.append((limit, worth_oversold((seats,) + GOOD[1:], limit))[0])
                except NoLimit:
                    continue
            self.assertEqual(let, list(range(seats, 17)))

    def test_no_show(self):
        for show in NO_SHOWS:
            for ask in self.asked(show=show):
                with self.subTest(show=show):
                    self.refuses(NoShow, ask)

    def test_shows_at_their_bounds(self):
        for of in range(-3, 16):
            for come in range(-3, 16):
                for ask in self.asked(show=(come, of)):
                    if 1 <= of <= 12 and 0 <= come <= of:
                        ask()
                    else:
                        self.refuses(NoShow, ask)

    def test_no_amends(self):
        for amends in NO_AMENDS:
            for ask in self.asked(amends=amends):
                with self.subTest(amends=amends):
                    self.refuses(NoAmends, ask)
        for amends in range(100):
            for ask in self.asked(amends=amends):
                ask()

    def test_what_stands_further_to_the_left_is_ahead(self):
        for second in (None, -1, 17, True):
            for show in (None, (1, 0), [1, 1], (1, 1)):
                for amends in (None, -1, 100, 0):
                    for ask in self.asked(None, second, amends=amends, show=show):
                        self.refuses(NoSale, ask)
                    self.refuses(NoNumber, amends_mean, GOOD, second, amends=amends, show=show)
                    self.refuses(NoLimit, worth_oversold, GOOD, second, amends=amends, show=show)
        for show in (None, (1, 0), [1, 1]):
            for amends in (None, -1, 100, 0):
                for ask in self.asked(amends=amends, show=show):
                    self.refuses(NoShow, ask)


class Asking(Cases):
    def test_by_places_and_by_names(self):
        self.asked_by(amends_mean, "sale", "sold", **LEFT_OUT)
        self.asked_by(worth_oversold, "sale", "limit", **LEFT_OUT)
        self.asked_by(least_limit, "sale", **LEFT_OUT)
        self.assertEqual(amends_mean(amends=20, show=(1, 2), sold=2, sale=ONE), (5, 1))
        self.assertEqual(amends_mean(ONE, sold=2, amends=20, show=(1, 2)), (5, 1))
        self.assertEqual(worth_oversold(amends=20, show=(1, 2), limit=2, sale=ONE), (15, 1))
        self.assertEqual(worth_oversold(ONE, limit=2, show=(1, 2), amends=20), (15, 1))
        self.assertEqual(least_limit(amends=30, show=(1, 2), sale=ONE), 2)
        self.refuses(NoShow, worth_oversold, amends=None, show=None, limit=5, sale=GOOD)
        self.refuses(NoSale, least_limit, amends=None, show=None, sale=None)

    def test_what_stands_behind_the_star_is_not_handed_in_by_its_place(self):
        self.assertRaises(TypeError, amends_mean, ONE, 2, (1, 1))
        self.assertRaises(TypeError, amends_mean, ONE, 2, (1, 1), 0)
        self.assertRaises(TypeError, worth_oversold, ONE, 2, (1, 1))
        self.assertRaises(TypeError, least_limit, ONE, (1, 1))

    def test_what_is_left_out(self):
        for sale in SALES + (GOOD,):
            self.assertEqual(amends_mean(sale, 16), amends_mean(sale, 16, show=(1, 1), amends=0))
            self.assertEqual(amends_mean(sale, 16, amends=7), amends_mean(sale, 16, show=(1, 1), amends=7))
            self.assertEqual(amends_mean(sale, 16, show=(1, 2)), amends_mean(sale, 16, show=(1, 2), amends=0))
            self.assertEqual(worth_oversold(sale, 16), worth_oversold(sale, 16, show=(1, 1), amends=0))
            self.assertEqual(worth_oversold(sale, 16, amends=7), worth_oversold(sale, 16, show=(1, 1), amends=7))
            self.assertEqual(worth_oversold(sale, 16, show=(1, 2)), worth_oversold(sale, 16, show=(1, 2), amends=0))
            self.assertEqual(least_limit(sale), least_limit(sale, show=(1, 1), amends=0))
            self.assertEqual(least_limit(sale, amends=7), least_limit(sale, show=(1, 1), amends=7))
            self.assertEqual(least_limit(sale, show=(1, 2)), least_limit(sale, show=(1, 2), amends=0))

    def test_the_same_again_and_nothing_changed(self):
        for sale in SALES + (None, list(GOOD)):
            for second in (0, 12, 16, 17, None, [], [12]):
                for show in ((1, 1), (5, 7), [1, 1], None, ([1], 1)):
                    self.leaves_as_it_was(amends_mean, sale, second, show=show, amends=7)
                    self.leaves_as_it_was(worth_oversold, sale, second, show=show, amends=7)
            for show in ((1, 1), (5, 7), [1, 1], None):
                self.leaves_as_it_was(least_limit, sale, show=show, amends=30)
            for amends in (0, 99, [0], None, {0: 0}):
                self.leaves_as_it_was(least_limit, sale, show=(1, 2), amends=amends)

    def test_truths_are_not_taken_for_numbers_told_ahead(self):
        for turn in range(2):
            self.same_fraction(amends_mean(ONE, 1, show=(1, 1), amends=1), (0, 1))
            self.refuses(NoNumber, amends_mean, ONE, True, show=(1, 1), amends=1)
            self.refuses(NoShow, amends_mean, ONE, 1, show=(True, 1), amends=1)
            self.refuses(NoAmends, amends_mean, ONE, 1, show=(1, 1), amends=True)
            self.same_fraction(worth_oversold(ONE, 1), (10, 1))
            self.refuses(NoLimit, worth_oversold, ONE, True)
            self.refuses(NoAmends, least_limit, ONE, amends=False)


if __name__ == "__main__":
    unittest.main()
