"""Nets: tuples (legs, periods, cases, products), each product a tuple (fare, share, some) of some legs.

What is left of a net is a tuple with, for each leg, how many of its seats are.
"""

from seatworth.errors import NoNet, NoPrices
from seatworth.fractions import are_fractions, fraction
from seatworth.whole import is_between, is_rising, is_whole
from seatworth.worths import row_level

MOST_LEGS = 3
MOST_LEG_SEATS = 4
MOST_PERIODS = 6
MOST_CASES = 24
MOST_PRODUCTS = 5
MOST_FARE = 99


def is_net(thing):
    """Tell whether a thing of whatever kind is a net."""
    if not isinstance(thing, tuple) or len(thing) != 4:
        return False
    legs, periods, cases, products = thing
    return (
        are_legs(legs)
        and is_between(periods, 0, MOST_PERIODS)
        and is_between(cases, 1, MOST_CASES)
        and are_products(products, len(legs), cases)
    )


def are_legs(thing):
    """Tell whether a thing of whatever kind is all legs of a net."""
    if not isinstance(thing, tuple) or not 1 <= len(thing) <= MOST_LEGS:
        return False
    return all([is_between(part, 0, MOST_LEG_SEATS) for part in thing])


def are_products(thing, many, cases):
    """Tell whether a thing of whatever kind is all products of a net with so many legs and cases."""
    if not isinstance(thing, tuple) or not 1 <= len(thing) <= MOST_PRODUCTS:
        return False
    if not all([is_product(part, many) for part in thing]):
        return False
    return sum([share for fare, share, some in thing]) <= cases


def is_product(thing, many):
    """Tell whether a thing of whatever kind is a product of so many legs, whatever the other shares are."""
    if not isinstance(thing, tuple) or len(thing) != 3:
        return False
    fare, share, some = thing
    if not is_between(fare, 1, MOST_FARE) or not is_whole(share) or share < 1:
        return False
    return is_rising(some, many - 1) and len(some) >= 1


def need_net(thing):
    """Refuse what is no net."""
    if not is_net(thing):
        raise NoNet("this is no net")


def need_prices(net, thing):
    """Refuse what are no prices of the net."""
    legs, periods, cases, products = net
    if not are_fractions(thing, len(legs)):
        raise NoPrices("these are no prices of the net")


def net_worth(net):
    """Tell the worth of all seats of a net at all its periods."""
    need_net(net)
    legs, periods, cases, products = net
    return mean_brought(net, products, True)


def priced_worth(net, prices):
    """Tell what selling by prices brings in the mean."""
    need_net(net)
    need_prices(net, prices)
    legs, periods, cases, products = net
    level = row_level(prices)
    sold = [product for product in products if above_prices(product, level) >= 0]
    return mean_brought(net, sold, False)


def above_prices(product, level):
    """Tell what a product's fare is above its legs' prices together, over the bottom of the level of the prices."""
    fare, share, some = product
    tops, bottom = level
    return fare * bottom - sum([tops[leg] for leg in some])


def mean_brought(net, sold, choosing):
    """Tell what a net brings in the mean where asks of these products are sold: wherever they can be, or, choosing,
    where this brings more than to keep the seats.
    """
    legs, periods, cases, products = net
    level = ({left: 0 for left in all_left(legs)}, 1)
    for period in range(periods):
        level = net_level_before(cases, sold, choosing, level)
    tops, bottom = level
    return fraction(tops[legs], bottom)


def all_left(legs):
    """Tell each tuple of what can be left of the legs."""
    lefts = [()]
    for seats in legs:
        lefts = [left + (many,) for left in lefts for many in range(seats + 1)]
    return lefts


def net_level_before(cases, sold, choosing, later):
    """Tell, of the level behind a period, the one ahead: what is had in the mean by what is left, over one bottom."""
    tops, bottom = later
    means = {}
    for left in tops:
        gains = [product_gain(product, left, choosing, later) for product in sold]
        # Each case has what is had where nothing is sold; a sale adds to it what it brings more, or less.
        means[left] = cases * tops[left] + sum(gains)
    return (means, cases * bottom)


def product_gain(product, left, choosing, later):
    """Tell what selling a product adds in all cases of a period, over the bottom of the level behind."""
    fare, share, some = product
    tops, bottom = later
    if not all([left[leg] >= 1 for leg in some]):
        return 0
    behind = tuple([many - 1 if leg in some else many for leg, many in enumerate(left)])
    gain = fare * bottom + tops[behind] - tops[left]
    return share * (max(0, gain) if choosing else gain)
