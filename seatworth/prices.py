"""What prices of a net's seats bound its worth by, what amounts of its products sum up to, and where both meet.

The least bound and the greatest sum are found at once, by the simplex method, in whole numbers. Its rows are all over
one bottom; each has a number for each product, for what is free of each product's bound and of each leg, and at the
end for what its bound leaves. The last row tells the sum: what it has for a leg's free seats is the leg's price.
"""

from seatworth.fractions import are_fractions, fraction
from seatworth.nets import above_prices, need_net, need_prices
from seatworth.worths import row_level


def price_bound(net, prices):
    """Tell the bound of prices of a net."""
    need_net(net)
    need_prices(net, prices)
    legs, periods, cases, products = net
    level = row_level(prices)
    tops, bottom = level
    seats_cost = sum([seats * top for seats, top in zip(legs, tops)])
    above = sum([product[1] * max(0, above_prices(product, level)) for product in products])
    return fraction(cases * seats_cost + periods * above, cases * bottom)


def flow_sum(net, thing):
    """Tell the sum of a thing of whatever kind where it is amounts of the net, else None."""
    need_net(net)
    legs, periods, cases, products = net
    if not are_fractions(thing, len(products)):
        return None
    level = row_level(thing)
    if not are_asked(net, level) or not are_seated(net, level):
        return None
    tops, bottom = level
    return fraction(sum([product[0] * top for product, top in zip(products, tops)]), bottom)


def are_asked(net, level):
    """Tell whether no amount of a level is greater than what is asked for in the mean at all periods."""
    legs, periods, cases, products = net
    tops, bottom = level
    return all([top * cases <= periods * product[1] * bottom for product, top in zip(products, tops)])


def are_seated(net, level):
    """Tell whether on no leg the amounts of a level are together greater than its seats."""
    legs, periods, cases, products = net
    tops, bottom = level
    for leg, seats in enumerate(legs):
        if sum([top for product, top in zip(products, tops) if leg in product[2]]) > seats * bottom:
            return False
    return True


def least_bound(net):
    """Tell the least bound of all prices of a net, and some prices that have it."""
    need_net(net)
    legs, periods, cases, products = net
    rows, held, bottom = best_rows(net)
    prices = tuple([fraction(top, bottom) for top in rows[-1][-1 - len(legs):-1]])
    return (price_bound(net, prices), prices)


def best_flow(net):
    """Tell some amounts of a net whose sum is the least bound of all prices."""
    need_net(net)
    legs, periods, cases, products = net
    rows, held, bottom = best_rows(net)
    tops = [0] * len(products)
    for row, place in zip(rows, held):
        if place < len(products):
            tops[place] = row[-1]
    return tuple([fraction(top, cases * bottom) for top in tops])


def best_rows(net):
    """Tell the rows of the greatest sum, the place that each but the last one holds, and the bottom of all rows."""
    rows, bottom = first_rows(net), 1
    legs, periods, cases, products = net
    held = [len(products) + at for at in range(len(rows) - 1)]
    column = growing_place(rows)
    while column is not None:
        at = tightest_row(rows, held, column)
        rows, bottom = turned_rows(rows, at, column, bottom), rows[at][column]
        held[at] = column
        column = growing_place(rows)
    return (rows, held, bottom)


def first_rows(net):
    """Tell the rows of no amount at all: each product's bound, each leg's seats, the sum; in all cases together."""
    legs, periods, cases, products = net
    rows = [[int(at == place) for place in range(len(products))] for at in range(len(products))]
    rows.extend([[int(leg in product[2]) for product in products] for leg in range(len(legs))])
    bounds = [periods * product[1] for product in products] + [seats * cases for seats in legs]
    many = len(bounds)
    whole = [row + [int(at == place) for place in range(many)] + [bounds[at]] for at, row in enumerate(rows)]
    whole.append([-product[0] for product in products] + [0] * (many + 1))
    return whole


def growing_place(rows):
    """Tell the first place with which the sum grows, None where there is none."""
    # Always the first one, here and among the tightest rows: so no rows ever come again (Bland's rule).
    growing = [place for place, number in enumerate(rows[-1]) if number < 0]
    return growing[0] if growing else None


def tightest_row(rows, held, column):
    """Tell the row that first leaves nothing where the place grows: of several the one that holds the first place."""
    best = None
    for at in range(len(held)):
        if rows[at][column] > 0 and (best is None or is_tighter(rows, held, column, at, best)):
            best = at
    return best


def is_tighter(rows, held, column, at, best):
    """Tell whether the one row leaves nothing ahead of the other one."""
    one = rows[at][-1] * rows[best][column]
    other = rows[best][-1] * rows[at][column]
    return (one, held[at]) < (other, held[best])


def turned_rows(rows, at, column, bottom):
    """Tell the rows where this row holds the place; their bottom is then what this row has there."""
    return [row if row_at == at else cleared(row, rows[at], column, bottom) for row_at, row in enumerate(rows)]


def cleared(row, holder, column, bottom):
    """Tell a row with nothing at the place that the other row holds, over what that one has there."""
    # The old bottom divides each of these numbers without a rest.
    return [(holder[column] * one - row[column] * other) // bottom for one, other in zip(row, holder)]
