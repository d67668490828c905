"""Tables that bound the worths of a sale from above, or from below, whoever made them."""

from seatworth.fractions import are_fractions
from seatworth.sales import need_sale
from seatworth.worths import level_before, nought_level, row_level


def over_bound(sale, thing):
    """Tell the bound of a thing of whatever kind where it is an over table of the sale, else None."""
    need_sale(sale)
    if not is_table(sale, thing) or min(beyond_due(sale, thing)) < 0:
        return None
    return thing[-1][-1]


def under_bound(sale, thing):
    """Tell the bound of a thing of whatever kind where it is an under table of the sale, else None."""
    need_sale(sale)
    if not is_table(sale, thing) or max(beyond_due(sale, thing)) > 0:
        return None
    return thing[-1][-1]


def is_table(sale, thing):
    """Tell whether a thing of whatever kind is a table of the sale."""
    seats, periods, cases, classes = sale
    if not isinstance(thing, tuple) or len(thing) != periods + 1:
        return False
    return all([are_fractions(part, seats + 1) for part in thing])


def beyond_due(sale, table):
    """Tell, for each place of a table, a number above nought where its fraction is greater than the due one, nought
    where it is just that, below nought where it is less.
    """
    beyond = []
    for row, (tops, bottom) in zip(table, due_levels(sale, table)):
        beyond.extend([number[0] * bottom - top * number[1] for number, top in zip(row, tops)])
    return beyond


def due_levels(sale, table):
    """Tell, for each time, the level of the due numbers of a table."""
    seats, periods, cases, classes = sale
    return [nought_level(seats)] + [level_before(cases, classes, row_level(row)) for row in table[:-1]]
