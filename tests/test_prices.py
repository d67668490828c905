"""Tests of prices and amounts of nets: point [61], and [2] to [5] as far as they bear on them."""

import itertools
import random
import unittest
from fractions import Fraction

from plainly import exact, pair, plain_flow_sum, plain_least_bound, plain_price_bound
from seatworth.errors import NoNet, NoPrices
from seatworth.fractions import is_fraction, is_less
from seatworth.nets import net_worth, priced_worth
from seatworth.prices import best_flow, flow_sum, least_bound, price_bound
from test_nets import PAIR, some_prices
from things import (
    GOOD_NET, GREAT, GREATEST_NET, LEAST_NET, LONG_NO_NETS, NETS, NO_NETS, OTHER_KINDS, SALES, Cases, drawn_nets, no_rows, with_part,
)

LITTLE = Fraction(1, 10 ** 29)
# Nets with bounds that are almost as tight as others, so that the tightest one must be told from them just so.
CLOSE = (
    ((3, 1), 5, 6, ((23, 2, (0, 1)), (65, 1, (0,)), (27, 1, (1,)), (20, 1, (0,)), (83, 1, (0, 1)))),
    ((1, 4), 3, 16, ((87, 2, (0,)), (21, 5, (0, 1)), (80, 3, (0, 1)), (29, 2, (0,)))),
    ((4, 1, 1), 2, 17, ((62, 5, (0, 1, 2)), (86, 1, (0, 1)), (11, 5, (0, 1, 2)), (81, 3, (0, 2)))),
    ((2,), 3, 11, ((92, 4, (0,)), (40, 1, (0,)), (27, 2, (0,)), (96, 2, (0,)))),
    ((1, 1), 6, 7, ((25, 4, (1,)), (24, 1, (1,)), (59, 1, (0, 1)))),
)


def asked_for(net):
    """How much of each product is asked for in the mean at all periods."""
    return [Fraction(net[1] * product[1], net[2]) for product in net[3]]


def drawn_amounts(draw, net):
    """Amounts of a net, each drawn up to what is asked for and still free."""
    free = list(net[0])
    amounts = [Fraction(0)] * len(net[3])
    for at in draw.sample(range(len(net[3])), len(net[3])):
        most = min([asked_for(net)[at]] + [free[leg] for leg in net[3][at][2]])
        amounts[at] = most * draw.choice((Fraction(0), Fraction(1), Fraction(1), Fraction(draw.randint(0, 7), 7)))
        for leg in net[3][at][2]:
            free[leg] -= amounts[at]
    return amounts


def told(numbers):
    """Python's own fractions as the program tells them."""
    return tuple(pair(Fraction(number)) for number in numbers)


class PriceBound(Cases):
    def test_by_hand(self):
        # Two periods, each product in one of two cases: one ask of each in the mean.
        self.same_fraction(price_bound(PAIR, ((0, 1), (0, 1))), (70, 1))
        self.same_fraction(price_bound(PAIR, ((10, 1), (0, 1))), (60, 1))
        self.same_fraction(price_bound(PAIR, ((30, 1), (0, 1))), (40, 1))
        self.same_fraction(price_bound(PAIR, ((40, 1), (0, 1))), (40, 1))
        self.same_fraction(price_bound(PAIR, ((41, 1), (0, 1))), (41, 1))
        self.same_fraction(price_bound(PAIR, ((20, 1), (10, 1))), (50, 1))
        # Beyond the fare nothing is taken off.
        self.same_fraction(price_bound(PAIR, ((20, 1), (50, 1))), (90, 1))
        self.same_fraction(price_bound(PAIR, ((GREAT, 1), (GREAT, 1))), (2 * GREAT, 1))
        self.same_fraction(price_bound(PAIR, ((61, 2), (1, 3))), (121, 3))
        # Seats, periods, shares and cases count.
        self.same_fraction(price_bound(((3,), 5, 7, ((10, 2, (0,)),)), ((0, 1),)), (100, 7))
        self.same_fraction(price_bound(((3,), 5, 7, ((10, 2, (0,)),)), ((4, 1),)), (144, 7))
        self.same_fraction(price_bound(((3,), 5, 7, ((10, 2, (0,)),)), ((10, 1),)), (30, 1))
        self.same_fraction(price_bound(LEAST_NET, ((GREAT, 1),)), (0, 1))
        self.same_fraction(price_bound(((4,), 0, 1, ((1, 1, (0,)),)), ((1, 3),)), (4, 3))

    def test_by_its_words(self):
        for seed, net in enumerate(NETS + drawn_nets(90, 60)):
            for prices in some_prices(net, seed):
                with self.subTest(net=net, prices=prices):
                    answer = price_bound(net, prices)
                    self.same_fraction(answer, pair(plain_price_bound(net, [exact(price) for price in prices])))
                    self.assertIs(is_fraction(answer), True)

    def test_great_bottoms(self):
        prices = ((GREAT - 1, GREAT), (GREAT - 2, GREAT - 1), (1, GREAT - 4))
        for net in (GREATEST_NET, NETS[9], NETS[10]):
            self.same_fraction(price_bound(net, prices), pair(plain_price_bound(net, [exact(price) for price in prices])))

    def test_the_worth_is_no_greater(self):
        for seed, net in enumerate(NETS + drawn_nets(91, 40)):
            for prices in some_prices(net, seed):
                self.assertIs(is_less(price_bound(net, prices), net_worth(net)), False)
                self.assertIs(is_less(price_bound(net, prices), priced_worth(net, prices)), False)


class FlowSum(Cases):
    def answers(self, net, amounts):
        answer, due = flow_sum(net, told(amounts)), plain_flow_sum(net, amounts)
        with self.subTest(net=net, amounts=amounts):
            if due is None:
                self.assertIsNone(answer)
            else:
                self.same_fraction(answer, pair(due))
                self.assertIs(is_fraction(answer), True)

    def test_by_hand(self):
        # No more than one of each, and on the first leg no more than one of both together.
        self.same_fraction(flow_sum(PAIR, ((0, 1), (0, 1))), (0, 1))
        self.same_fraction(flow_sum(PAIR, ((1, 1), (0, 1))), (30, 1))
        self.same_fraction(flow_sum(PAIR, ((0, 1), (1, 1))), (40, 1))
        self.same_fraction(flow_sum(PAIR, ((1, 2), (1, 2))), (35, 1))
        self.same_fraction(flow_sum(PAIR, ((1, 3), (2, 3))), (110, 3))
        self.assertIsNone(flow_sum(PAIR, ((1, 1), (1, 1))))
        self.assertIsNone(flow_sum(PAIR, ((1, 3), (3, 4))))
        self.assertIsNone(flow_sum(PAIR, ((2, 1), (0, 1))))
        # Two seats: only what is asked for counts.
        self.same_fraction(flow_sum(with_part(PAIR, 0, (2, 2)), ((1, 1), (1, 1))), (70, 1))
        self.assertIsNone(flow_sum(with_part(PAIR, 0, (4, 4)), ((2, 1), (0, 1))))
        self.assertIsNone(flow_sum(with_part(PAIR, 0, (4, 4)), ((3, 2), (0, 1))))
        # The second leg has no seat, so nothing of the first product.
        self.same_fraction(flow_sum(with_part(PAIR, 0, (1, 0)), ((0, 1), (1, 1))), (40, 1))
        self.assertIsNone(flow_sum(with_part(PAIR, 0, (1, 0)), (pair(LITTLE), (0, 1))))
        self.same_fraction(flow_sum(LEAST_NET, ((0, 1),)), (0, 1))
        self.assertIsNone(flow_sum(LEAST_NET, ((1, 1),)))

    def test_what_is_asked_for_and_beyond_by_a_part(self):
        for net in NETS + drawn_nets(92, 20):
            wide = with_part(net, 0, (4,) * len(net[0]))
            for at, most in enumerate(asked_for(wide)):
                amounts = [Fraction(0)] * len(net[3])
                for amount in (most, most + LITTLE, most - LITTLE, most + Fraction(1, 24), most + 1, -LITTLE):
                    amounts[at] = amount
                    self.answers(wide, amounts)

    def test_seats_and_beyond_by_a_part(self):
        net = ((2, 1, 3), 6, 5, ((10, 1, (0,)), (20, 1, (0, 1)), (30, 1, (1, 2)), (40, 1, (0, 1, 2)), (50, 1, (2,))))
        for amounts in (
            (1, 1, 0, 0, 1), (Fraction(6, 5), Fraction(4, 5), Fraction(1, 5), 0, Fraction(6, 5)), (Fraction(1, 2),) * 2 + (0, Fraction(1, 2), 1),
            (1, Fraction(1, 3), Fraction(1, 3), Fraction(1, 3), Fraction(6, 5)),
        ):
            amounts = [Fraction(amount) for amount in amounts]
            self.assertIsNotNone(plain_flow_sum(net, amounts))
            self.answers(net, amounts)
            for at in range(5):
                for change in (LITTLE, -LITTLE, Fraction(1, 7), Fraction(-1, 7)):
                    self.answers(net, amounts[:at] + [amounts[at] + change] + amounts[at + 1:])

    def test_drawn_amounts(self):
        draw = random.Random(93)
        for net in NETS + drawn_nets(94, 60):
            for turn in range(5):
                amounts = drawn_amounts(draw, net)
                self.assertIsNotNone(plain_flow_sum(net, amounts))
                self.answers(net, amounts)
                at = draw.randrange(len(amounts))
                amounts[at] += draw.choice((LITTLE, Fraction(1, 3), Fraction(2)))
                self.answers(net, amounts)

    def test_no_sum_is_greater_than_a_bound(self):
        draw = random.Random(95)
        for seed, net in enumerate(NETS + drawn_nets(96, 30)):
            for prices in some_prices(net, seed):
                amounts = told(drawn_amounts(draw, net))
                self.assertIs(is_less(price_bound(net, prices), flow_sum(net, amounts)), False)

    def test_what_are_no_amounts(self):
        for net in NETS + (GOOD_NET, PAIR):
            many = len(net[3])
            good = ((0, 1),) * many
            self.same_fraction(flow_sum(net, good), (0, 1))
            for thing in no_rows(net, many):
                with self.subTest(net=net, thing=thing):
                    self.assertIsNone(flow_sum(net, thing))

    def test_out_of_least_terms_and_below_nought(self):
        self.same_fraction(flow_sum(PAIR, ((1, 2), (1, 2))), (35, 1))
        for thing in (
            ((2, 4), (1, 2)), ((1, 2), (2, 4)), ((0, 2), (0, 1)), ((0, 1), (0, 9)), ((-1, 2), (1, 2)), ((1, 2), (-1, 2)), ((1, -2), (1, 2)),
            ((-1, -2), (1, 2)), ((0, -1), (0, 1)), ((True, 1), (0, 1)), ((0, True), (0, 1)), ((0, 1), (False, 1)), ([1, 2], (1, 2)), (1, 0),
        ):
            self.assertIsNone(flow_sum(PAIR, thing), thing)

    def test_far_beyond_thirty_figures(self):
        tiny = (3 ** 10000, 2 ** 16000)
        answer = flow_sum(PAIR, (tiny, (0, 1)))
        self.assertTrue(answer == (15 * 3 ** 10000, 2 ** 15999))
        self.assertIsNone(flow_sum(PAIR, ((2 ** 16000, 3 ** 10000), (0, 1))))


class LeastBound(Cases):
    def test_by_hand(self):
        # One seat of the first leg, one ask of each: 40 of it, at a price between 30 and 40.
        self.assertEqual(least_bound(PAIR)[0], (40, 1))
        self.assertEqual(best_flow(PAIR), ((0, 1), (1, 1)))
        # Two seats of the first leg, one of the second: one of each.
        self.assertEqual(least_bound(with_part(PAIR, 0, (2, 1)))[0], (70, 1))
        self.assertEqual(best_flow(with_part(PAIR, 0, (2, 1))), ((1, 1), (1, 1)))
        # Seats for all: prices of nought.
        self.assertEqual(least_bound(with_part(PAIR, 0, (4, 4))), ((70, 1), ((0, 1), (0, 1))))
        # One seat; 10 / 7 asks in the mean.
        self.assertEqual(least_bound(((1,), 5, 7, ((10, 2, (0,)),))), ((10, 1), ((10, 1),)))
        self.assertEqual(best_flow(((1,), 5, 7, ((10, 2, (0,)),))), ((1, 1),))
        self.assertEqual(least_bound(((2,), 5, 7, ((10, 2, (0,)),))), ((100, 7), ((0, 1),)))
        self.assertEqual(best_flow(((2,), 5, 7, ((10, 2, (0,)),))), ((10, 7),))
        # 90 comes once in the mean, the other seat is for 10.
        net = ((2,), 2, 2, ((10, 1, (0,)), (90, 1, (0,))))
        self.assertEqual(least_bound(net)[0], (100, 1))
        self.assertEqual(best_flow(net), ((1, 1), (1, 1)))
        # Each pair of three legs: half a seat of each, 15 for each leg.
        net = ((1, 1, 1), 6, 3, ((30, 1, (0, 1)), (30, 1, (1, 2)), (30, 1, (0, 2))))
        self.assertEqual(least_bound(net), ((45, 1), ((15, 1), (15, 1), (15, 1))))
        self.assertEqual(best_flow(net), ((1, 2), (1, 2), (1, 2)))

    def test_no_seat_no_period(self):
        for net in NETS:
            for none in (with_part(net, 0, (0,) * len(net[0])), with_part(net, 1, 0)):
                bound, prices = least_bound(none)
                self.same_fraction(bound, (0, 1))
                self.assertEqual(price_bound(none, prices), (0, 1))
                self.assertEqual(best_flow(none), ((0, 1),) * len(net[3]))

    def both_meet(self, net):
        answer, amounts = least_bound(net), best_flow(net)
        self.assertEqual([type(answer), len(answer)], [tuple, 2])
        bound, prices = answer
        for row, many in ((prices, len(net[0])), (amounts, len(net[3]))):
            self.assertEqual([type(row), len(row)], [tuple, many])
            for number in row:
                self.assertIs(is_fraction(number), True)
                self.assertGreaterEqual(number[0], 0)
        self.same_fraction(price_bound(net, prices), bound)
        self.same_fraction(flow_sum(net, amounts), bound)
        self.same_fraction(bound, pair(plain_price_bound(net, [exact(price) for price in prices])))
        self.same_fraction(bound, pair(plain_flow_sum(net, [exact(amount) for amount in amounts])))

    def test_its_prices_and_amounts_have_the_same(self):
        for net in NETS + CLOSE + (PAIR, GOOD_NET) + drawn_nets(97, 400):
            with self.subTest(net=net):
                self.both_meet(net)

    def test_alike_fares_and_shares(self):
        """Where many prices and amounts are as good, the way to them must come to an end all the same."""
        somes = [some for many in (1, 2, 3) for some in itertools.combinations(range(3), many)]
        for five in itertools.combinations(somes, 5):
            for legs in ((0, 0, 0), (1, 1, 1), (2, 2, 2), (0, 1, 0), (2, 1, 0), (4, 4, 4)):
                for fares in ((1,) * 5, (99,) * 5, (10, 20, 30, 20, 10), (10, 10, 20, 20, 30)):
                    for cases in (5, 24):
                        self.both_meet((legs, 5, cases, tuple((fare, 1, some) for fare, some in zip(fares, five))))

    def test_each_number_of_legs_and_products(self):
        for legs in range(1, 4):
            for many in range(1, 6):
                for seats in range(5):
                    for periods in (0, 1, 6):
                        products = tuple((10 * at + 9, 1, tuple(range(at % legs, legs))) for at in range(many))
                        self.both_meet(((seats,) * legs, periods, many, products))

    def test_against_all_corners(self):
        for net in NETS + CLOSE + (PAIR, GOOD_NET) + drawn_nets(98, 60):
            with self.subTest(net=net):
                self.same_fraction(least_bound(net)[0], pair(plain_least_bound(net)))

    def test_against_many_drawn_prices_and_amounts(self):
        draw = random.Random(99)
        for seed, net in enumerate(NETS + drawn_nets(100, 30)):
            bound, best = least_bound(net)
            for prices in some_prices(net, seed):
                self.assertIs(is_less(price_bound(net, prices), bound), False)
            for turn in range(20):
                near = tuple(
                    pair(max(Fraction(0), exact(price) + Fraction(draw.randint(-9, 9), draw.randint(1, 9)))) for price in best
                )
                self.assertIs(is_less(price_bound(net, near), bound), False)
                self.assertIs(is_less(bound, flow_sum(net, told(drawn_amounts(draw, net)))), False)

    def test_the_worth_is_no_greater(self):
        for net in NETS + drawn_nets(101, 60):
            bound, prices = least_bound(net)
            self.assertIs(is_less(bound, net_worth(net)), False)
            self.assertIs(is_less(net_worth(net), priced_worth(net, prices)), False)


class Refusals(Cases):
    def test_no_net(self):
        for net in NO_NETS + LONG_NO_NETS:
            self.refuses(NoNet, price_bound, net, ((0, 1), (0, 1)))
            self.refuses(NoNet, flow_sum, net, ((0, 1), (0, 1)))
            self.refuses(NoNet, least_bound, net)
            self.refuses(NoNet, best_flow, net)

    def test_no_prices(self):
        for net in NETS + (GOOD_NET,):
            for thing in no_rows(net, len(net[0])):
                with self.subTest(net=net, thing=thing):
                    self.refuses(NoPrices, price_bound, net, thing)
        self.refuses(NoPrices, price_bound, PAIR, ((2 * 3 ** 10000, 2), (0, 1)))

    def test_no_net_is_ahead(self):
        for thing in OTHER_KINDS + (((0, 1), (0, 1)), GOOD_NET, ()):
            for net in (None, list(GOOD_NET), (), NO_NETS[-1], SALES[3]):
                self.refuses(NoNet, price_bound, net, thing)
                self.refuses(NoNet, flow_sum, net, thing)


class Asking(Cases):
    def test_by_places_and_by_names(self):
        self.asked_by(price_bound, "net", "prices")
        self.asked_by(flow_sum, "net", "thing")
        self.asked_by(least_bound, "net")
        self.asked_by(best_flow, "net")
        self.assertEqual(price_bound(prices=((10, 1), (0, 1)), net=PAIR), (60, 1))
        self.assertEqual(price_bound(PAIR, prices=((10, 1), (0, 1))), (60, 1))
        self.assertEqual(flow_sum(thing=((0, 1), (1, 1)), net=PAIR), (40, 1))
        self.assertEqual(least_bound(net=PAIR), least_bound(PAIR))
        self.assertEqual(best_flow(net=PAIR), best_flow(PAIR))
        self.refuses(NoNet, price_bound, prices=None, net=None)
        self.refuses(NoPrices, price_bound, prices=None, net=PAIR)

    def test_the_same_again_and_nothing_changed(self):
        for net in NETS + NO_NETS:
            self.leaves_as_it_was(least_bound, net)
            self.leaves_as_it_was(best_flow, net)
            for thing in (((0, 1),), ((1, 2), (0, 1)), ((1, 2),) * 3, ((0, 1),) * 5, None, [(0, 1)], ([0, 1],)):
                self.leaves_as_it_was(price_bound, net, thing)
                self.leaves_as_it_was(flow_sum, net, thing)

    def test_what_was_handed_in_may_be_changed_later(self):
        amounts = [(0, 1), (1, 1)]
        self.assertEqual(flow_sum(PAIR, tuple(amounts)), (40, 1))
        amounts[0] = (1, 1)
        self.assertIsNone(flow_sum(PAIR, tuple(amounts)))
        self.assertIsNone(flow_sum(PAIR, amounts))

    def test_truths_are_not_taken_for_numbers_told_ahead(self):
        for turn in range(2):
            self.same_fraction(price_bound(PAIR, ((0, 1), (1, 1))), (70, 1))
            self.refuses(NoPrices, price_bound, PAIR, ((False, 1), (1, 1)))
            self.refuses(NoPrices, price_bound, PAIR, ((0, 1), (1, True)))
            self.same_fraction(flow_sum(PAIR, ((0, 1), (1, 1))), (40, 1))
            self.assertIsNone(flow_sum(PAIR, ((0, 1), (True, 1))))


if __name__ == "__main__":
    unittest.main()
