"""Where to sell: the numbers left at which a class is open, the last seat's worth, and the marks."""

from seatworth.errors import NoSingle
from seatworth.fractions import fraction
from seatworth.sales import need_class, need_left, need_sale, need_time
from seatworth.worths import can_sell, sold_gain, worth_levels


def opened(sale, number, time):
    """Tell the numbers left at which a class is open at a time from 1 on."""
    need_sale(sale)
    need_class(sale, number)
    need_time(sale, time, 1)
    seats, periods, cases, classes = sale
    later = worth_levels(sale, time - 1)[-1]
    return tuple([left for left in range(seats + 1) if is_opened(classes[number], left, later)])


def is_opened(kind, left, later):
    """Tell whether a class is open at a number left, of the level of the worths at the time less by one."""
    return can_sell(kind, left) and sold_gain(kind, left, later) >= 0


def seat_worth(sale, time, left):
    """Tell the last seat's worth at a time, of so many seats left, from 1 on."""
    need_sale(sale)
    need_time(sale, time)
    need_left(sale, left, 1)
    tops, bottom = worth_levels(sale, time)[time]
    return fraction(tops[left] - tops[left - 1], bottom)


def mark(sale, number, time):
    """Tell the least number left at which a class is open, None where there is none; each size is 1."""
    numbers = opened(sale, number, time)
    seats, periods, cases, classes = sale
    if not all([size == 1 for fare, share, size in classes]):
        raise NoSingle("not every size of the sale is 1")
    return numbers[0] if numbers else None
