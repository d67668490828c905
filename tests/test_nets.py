"""Tests of nets: points [60] and [62], and [2] to [5] as far as they bear on them."""

import itertools
import random
import unittest
from fractions import Fraction

from plainly import pair, plain_net_worth, plain_priced_worth, taken
from seatworth.errors import NoNet, NoPrices
from seatworth.fractions import is_fraction, is_less
from seatworth.nets import is_net, net_worth, priced_worth
from seatworth.worths import worth
from things import (
    GOOD_NET, GREAT, GREATEST_NET, LEAST_NET, LONG_NO_NETS, NETS, NO_BOUNDED, NO_NETS, OTHER_KINDS, PRODUCT, SALES, Cases,
    drawn_nets, drawn_sales, no_rows, with_part, with_product,
)

# Two legs of one seat; of both together 30, of the first one alone 40.
PAIR = ((1, 1), 2, 2, ((30, 1, (0, 1)), (40, 1, (0,))))


def some_prices(net, seed):
    """Prices of nought, whole ones, parts, fares, great ones, and drawn ones."""
    draw = random.Random(seed)
    many = len(net[0])
    fares = [product[0] for product in net[3]]
    return (
        ((0, 1),) * many, ((1, 1),) * many, ((99, 1),) * many, ((100, 1),) * many, ((GREAT, 1),) * many, ((1, GREAT),) * many,
        tuple((fares[0], leg + 1) if fares[0] % (leg + 1) else (fares[0], 1) for leg in range(many)),
        tuple((draw.choice(fares), 1) for leg in range(many)),
        tuple(pair(Fraction(draw.choice(fares), len(draw.choice(net[3])[2]))) for leg in range(many)),
        tuple(pair(Fraction(draw.randint(0, 200), draw.randint(1, 9))) for leg in range(many)),
        tuple(pair(Fraction(draw.randint(0, 60), draw.randint(1, 3))) for leg in range(many)),
    )


class WhatIsANet(Cases):
    def all_are(self, things, due):
        for thing in things:
            with self.subTest(thing=thing):
                self.assertIs(is_net(thing), due)

    def test_ordinary_ones(self):
        self.all_are(NETS + (GOOD_NET, PAIR) + drawn_nets(80, 200), True)

    def test_what_is_none(self):
        self.all_are(NO_NETS, False)

    def test_very_long_numbers(self):
        for thing in LONG_NO_NETS:
            self.assertIs(is_net(thing), False)


class Bounds(Cases):
    def just(self, make, least, most):
        """From the least to the most one, each is let; beyond them none is."""
        let = [k for k in range(least - 30, most + 31) if is_net(make(k))]
        self.assertEqual(let, list(range(least, most + 1)))
        for part in NO_BOUNDED:
            with self.subTest(part=part):
                self.assertIs(is_net(make(part)), False)

    def test_seats_of_each_leg(self):
        for many in range(1, 4):
            for at in range(many):
                self.just(lambda k: with_part(((1,) * many, 4, 10, ((60, 3, (0,)),)), 0, with_part((1,) * many, at, k)), 0, 4)

    def test_how_many_legs(self):
        let = [k for k in range(12) if is_net(((1,) * k, 4, 10, ((60, 3, (0,)),)))]
        self.assertEqual(let, [1, 2, 3])

    def test_periods(self):
        self.just(lambda k: with_part(GOOD_NET, 1, k), 0, 6)

    def test_cases(self):
        self.just(lambda k: ((2, 3), 4, k, ((60, 1, (0, 1)),)), 1, 24)

    def test_cases_no_fewer_than_all_shares(self):
        self.just(lambda k: with_part(GOOD_NET, 2, k), 6, 24)

    def test_how_many_products(self):
        let = [k for k in range(12) if is_net(((2, 3), 4, 24, ((60, 1, (0, 1)),) * k))]
        self.assertEqual(let, [1, 2, 3, 4, 5])

    def test_fare_and_share(self):
        self.just(lambda k: with_product(with_part(PRODUCT, 0, k)), 1, 99)
        self.just(lambda k: with_product(with_part(PRODUCT, 1, k)), 1, 24)

    def test_the_bounds_hold_in_each_product(self):
        for at in range(5):
            def made(part):
                return ((2, 3), 4, 24, with_part((PRODUCT,) * 5, at, part))
            self.just(lambda k: made(with_part(PRODUCT, 0, k)), 1, 99)
            self.just(lambda k: made(with_part(PRODUCT, 1, k)), 1, 12)
            self.just(lambda k: made(with_part(PRODUCT, 2, (k,))), 0, 1)

    def test_shares_together_just_all_cases_and_one_more(self):
        for cases in range(5, 25):
            products = ((60, cases - 4, (0, 1)),) + ((25, 1, (1,)),) * 4
            self.assertIs(is_net(((2, 3), 4, cases, products)), True)
            self.assertIs(is_net(((2, 3), 4, cases, products[::-1])), True)
            self.assertIs(is_net(((2, 3), 4, cases - 1, products)), False)
            self.assertIs(is_net(((2, 3), 4, cases - 1, products[::-1])), False)

    def test_legs_of_a_product(self):
        """Of all tuples of up to four numbers just the rising ones of one or more legs are let."""
        for many in range(1, 4):
            let = {one for size in range(1, many + 1) for one in itertools.combinations(range(many), size)}
            for size in range(5):
                for some in itertools.product(range(-1, 4), repeat=size):
                    self.assertIs(is_net(((1,) * many, 4, 24, ((60, 3, some),))), some in let, some)


class NetWorth(Cases):
    def test_by_hand(self):
        self.same_fraction(net_worth(LEAST_NET), (0, 1))
        self.same_fraction(net_worth(((1,), 1, 2, ((10, 1, (0,)),))), (5, 1))
        self.same_fraction(net_worth(((1,), 2, 2, ((10, 1, (0,)),))), (15, 2))
        # 30 is less than the 35 that the seats are worth behind it, so it is kept for one of 40: (35 + 40) / 2.
        self.same_fraction(net_worth(PAIR), (75, 2))
        self.same_fraction(net_worth(with_part(PAIR, 1, 1)), (35, 1))
        # Two seats of each leg: each ask can be sold.
        self.same_fraction(net_worth(with_part(PAIR, 0, (2, 2))), (70, 1))
        # Of the second leg one seat more is nothing to it, of the first one it is.
        self.same_fraction(net_worth(with_part(PAIR, 0, (1, 2))), (75, 2))
        self.same_fraction(net_worth(with_part(PAIR, 0, (2, 1))), (125, 2))
        # One leg has no seat: only the other product is sold.
        self.same_fraction(net_worth(with_part(PAIR, 0, (1, 0))), (30, 1))
        self.same_fraction(net_worth(with_part(PAIR, 0, (0, 1))), (0, 1))

    def test_no_seat_no_period(self):
        for net in NETS:
            self.same_fraction(net_worth(with_part(net, 0, (0,) * len(net[0]))), (0, 1))
            self.same_fraction(net_worth(with_part(net, 1, 0)), (0, 1))

    def test_by_its_words(self):
        for net in NETS + drawn_nets(81, 60):
            with self.subTest(net=net):
                told = net_worth(net)
                self.same_fraction(told, pair(plain_net_worth(net)))
                self.assertIs(is_fraction(told), True)

    def test_the_bounds_all_at_once(self):
        for turn in range(5):
            self.same_fraction(net_worth(GREATEST_NET), net_worth(GREATEST_NET))
        self.same_fraction(net_worth(GREATEST_NET), pair(plain_net_worth(GREATEST_NET)))

    def test_a_sale_as_a_net_of_one_leg_is_worth_the_same(self):
        for sale in SALES + drawn_sales(82, 40, most_seats=4, most_periods=6, most_size=1):
            seats, periods, cases, kinds = sale
            if seats <= 4 and periods <= 6 and all(size == 1 for fare, share, size in kinds):
                net = ((seats,), periods, cases, tuple((fare, share, (0,)) for fare, share, size in kinds))
                self.same_fraction(net_worth(net), worth(sale, periods, seats))

    def test_legs_that_have_nothing_to_do_with_each_other(self):
        """All products of one leg each: the worth is that of the legs, each as a net of its own."""
        net = ((2, 1, 3), 4, 10, ((60, 2, (0,)), (25, 1, (1,)), (31, 3, (2,)), (40, 1, (0,)), (9, 2, (1,))))
        total = sum(
            plain_net_worth(((seats,), 4, 10, tuple((fare, share, (0,)) for fare, share, some in net[3] if some == (leg,))))
            for leg, seats in enumerate(net[0])
        )
        self.same_fraction(net_worth(net), pair(total))

    def test_the_order_of_legs_and_products_is_nothing_to_it(self):
        for net in NETS + drawn_nets(83, 20):
            legs, periods, cases, products = net
            turned = tuple((fare, share, tuple(len(legs) - 1 - leg for leg in some[::-1])) for fare, share, some in products)
            self.assertEqual(net_worth(net), net_worth((legs, periods, cases, products[::-1])))
            self.assertEqual(net_worth(net), net_worth((legs[::-1], periods, cases, turned)))

    def test_products_of_all_legs_sell_as_many_as_the_least_leg_has(self):
        for legs in ((4, 2, 3), (2, 4, 4), (3, 3, 2)):
            net = (legs, 6, 7, ((50, 3, (0, 1, 2)), (20, 2, (0, 1, 2))))
            self.assertEqual(net_worth(net), worth((2, 6, 7, ((50, 3, 1), (20, 2, 1))), 6, 2))


def mean_by_runs(net, prices):
    """Point [62] over each run of asks, gone through one by one."""
    legs, periods, cases, products = net
    comes = [product for product in products for case in range(product[1])]
    comes += [None] * (cases - len(comes))
    total = 0
    for run in itertools.product(comes, repeat=periods):
        left = legs
        for product in run:
            if product and all(left[leg] for leg in product[2]):
                if product[0] >= sum(Fraction(*prices[leg]) for leg in product[2]):
                    total += product[0]
                    left = taken(left, product[2])
    return Fraction(total, cases ** periods)


class PricedWorth(Cases):
    def test_by_hand(self):
        # All is sold: 30 or 40 at first, then 40 can't be sold, nor 30.
        self.same_fraction(priced_worth(PAIR, ((0, 1), (0, 1))), (35, 1))
        # Only 40 is sold.
        self.same_fraction(priced_worth(PAIR, ((31, 1), (0, 1))), (30, 1))
        self.same_fraction(priced_worth(PAIR, ((20, 1), (11, 1))), (30, 1))
        # The fare is just the prices together.
        self.same_fraction(priced_worth(PAIR, ((20, 1), (10, 1))), (35, 1))
        self.same_fraction(priced_worth(PAIR, ((30, 1), (0, 1))), (35, 1))
        self.same_fraction(priced_worth(PAIR, ((61, 3), (29, 3))), (35, 1))
        # By the least beyond it.
        beyond = pair(Fraction(29, 3) + Fraction(1, 10 ** 28))
        self.same_fraction(priced_worth(PAIR, ((61, 3), beyond)), (30, 1))
        short = pair(Fraction(29, 3) - Fraction(1, 10 ** 28))
        self.same_fraction(priced_worth(PAIR, ((61, 3), short)), (35, 1))
        # Only 30 is sold: its second leg's price is not above it, the first one's is above no fare alone.
        self.same_fraction(priced_worth(((1, 1), 2, 2, ((30, 1, (1,)), (40, 1, (0,)))), ((41, 1), (30, 1))), (45, 2))
        # Nothing is sold.
        self.same_fraction(priced_worth(PAIR, ((41, 1), (0, 1))), (0, 1))
        self.same_fraction(priced_worth(PAIR, ((GREAT, 1), (GREAT, 1))), (0, 1))
        self.same_fraction(priced_worth(LEAST_NET, ((0, 1),)), (0, 1))

    def test_each_run_of_asks(self):
        for seed, net in enumerate((PAIR, ((2, 1), 3, 4, ((60, 1, (0, 1)), (25, 2, (0,)))), ((1, 2, 1), 3, 5, NETS[9][3][:1]))):
            for prices in some_prices(net, seed):
                self.same_fraction(priced_worth(net, prices), pair(mean_by_runs(net, prices)))

    def test_by_its_words(self):
        for seed, net in enumerate(NETS + drawn_nets(84, 40)):
            for prices in some_prices(net, seed):
                with self.subTest(net=net, prices=prices):
                    told = priced_worth(net, prices)
                    self.same_fraction(told, pair(plain_priced_worth(net, prices)))
                    self.assertIs(is_fraction(told), True)

    def test_no_more_than_the_worth(self):
        for seed, net in enumerate(NETS + drawn_nets(85, 40)):
            for prices in some_prices(net, seed):
                self.assertIs(is_less(net_worth(net), priced_worth(net, prices)), False)

    def test_to_keep_nothing_may_bring_less(self):
        """Selling by prices sells where it brings less than to keep the seats, too."""
        self.same_fraction(priced_worth(((1,), 2, 2, ((10, 1, (0,)), (90, 1, (0,)))), ((10, 1),)), (50, 1))
        self.same_fraction(priced_worth(((1,), 2, 2, ((10, 1, (0,)), (90, 1, (0,)))), ((11, 1),)), (135, 2))
        self.same_fraction(net_worth(((1,), 2, 2, ((10, 1, (0,)), (90, 1, (0,))))), (70, 1))

    def test_prices_far_beyond_thirty_figures(self):
        self.same_fraction(priced_worth(PAIR, ((3 ** 10000, 2 ** 4), (0, 1))), (0, 1))
        self.same_fraction(priced_worth(PAIR, ((1, 3 ** 10000), (1, 2 ** 10000))), (35, 1))


class Refusals(Cases):
    def test_no_net(self):
        for net in NO_NETS:
            with self.subTest(net=net):
                self.refuses(NoNet, net_worth, net)
                self.refuses(NoNet, priced_worth, net, ((0, 1), (0, 1)))
        for net in LONG_NO_NETS:
            self.refuses(NoNet, net_worth, net)
            self.refuses(NoNet, priced_worth, net, ((0, 1),))

    def test_no_prices(self):
        for net in NETS + (GOOD_NET,):
            for thing in no_rows(net, len(net[0])):
                with self.subTest(net=net, thing=thing):
                    self.refuses(NoPrices, priced_worth, net, thing)
        self.refuses(NoPrices, priced_worth, PAIR, ((2 * 3 ** 10000, 2), (0, 1)))
        self.refuses(NoPrices, priced_worth, PAIR, ((-(3 ** 10000), 2), (0, 1)))

    def test_no_net_is_ahead(self):
        for thing in OTHER_KINDS + (((0, 1), (0, 1)), GOOD_NET, ()):
            for net in (None, list(GOOD_NET), (), NO_NETS[-1], SALES[3]):
                self.refuses(NoNet, priced_worth, net, thing)


class Asking(Cases):
    def test_by_places_and_by_names(self):
        self.asked_by(is_net, "thing")
        self.asked_by(net_worth, "net")
        self.asked_by(priced_worth, "net", "prices")
        self.assertIs(is_net(thing=PAIR), True)
        self.assertEqual(net_worth(net=PAIR), (75, 2))
        self.assertEqual(priced_worth(prices=((31, 1), (0, 1)), net=PAIR), (30, 1))
        self.assertEqual(priced_worth(PAIR, prices=((31, 1), (0, 1))), (30, 1))
        self.refuses(NoNet, priced_worth, prices=None, net=None)
        self.refuses(NoPrices, priced_worth, prices=None, net=PAIR)

    def test_the_same_again_and_nothing_changed(self):
        for net in NETS + NO_NETS:
            self.leaves_as_it_was(is_net, net)
            self.leaves_as_it_was(net_worth, net)
            for prices in (((0, 1),), ((1, 2), (0, 1)), ((1, 2),) * 3, None, [(0, 1)], ([0, 1],)):
                self.leaves_as_it_was(priced_worth, net, prices)

    def test_what_was_handed_in_may_be_changed_later(self):
        legs = [1, 1]
        self.assertIs(is_net((tuple(legs),) + PAIR[1:]), True)
        self.assertIs(is_net((legs,) + PAIR[1:]), False)
        legs[0] = 5
        self.assertIs(is_net((tuple(legs),) + PAIR[1:]), False)
        prices = [(31, 1), (0, 1)]
        self.assertEqual(priced_worth(PAIR, tuple(prices)), (30, 1))
        prices[0] = (0, 1)
        self.assertEqual(priced_worth(PAIR, tuple(prices)), (35, 1))

    def test_truths_are_not_taken_for_numbers_told_ahead(self):
        for turn in range(2):
            self.assertIs(is_net(((1,), 1, 1, ((1, 1, (0,)),))), True)
            for thing in (
                ((True,), 1, 1, ((1, 1, (0,)),)), ((1,), True, 1, ((1, 1, (0,)),)), ((1,), 1, True, ((1, 1, (0,)),)),
                ((1,), 1, 1, ((True, 1, (0,)),)), ((1,), 1, 1, ((1, True, (0,)),)), ((1,), 1, 1, ((1, 1, (False,)),)),
            ):
                self.assertIs(is_net(thing), False)
                self.refuses(NoNet, net_worth, thing)
            self.same_fraction(net_worth(((1,), 1, 1, ((1, 1, (0,)),))), (1, 1))
            self.refuses(NoPrices, priced_worth, ((1,), 1, 1, ((1, 1, (0,)),)), ((0, True),))


if __name__ == "__main__":
    unittest.main()
