"""What several tests share: things of whatever kind, sales and what is none, and what is looked at again and again."""

import copy
import inspect
import random
import unittest

GREAT = 10 ** 30 - 1


def nested(depth):
    """A list in a tuple in a list .., so many deep."""
    thing = []
    for k in range(depth - 1):
        thing = (thing,) if k % 2 else [thing]
    return thing


OTHER_KINDS = (
    None, True, False, 0, 1, -1, GREAT, -GREAT, "", "0", "1/2", "(0, 1)", "12", "ab", "a\tb\n", "x" * 1000,
    [], [0, 1], [1, 2], [-1, 2], [1], [1, 2, 3], [(0, 1)], [[0, 1]], {}, {0: 1}, {1: 2}, {0: 0, 1: 1}, {"top": 1, "bottom": 2},
    {(0, 1): (0, 1)}, nested(9), nested(10), [0] * 1999, {k: k for k in range(900)}, [[0, 1], {"a": (None, [True])}],
)
NO_WHOLES = (None, True, False, "", "1", "ab", [], [1], (), (1,), (1, 2), (0, 1), {}, {1: 1}, nested(10), [0] * 1999)

LEAST_SALE = (0, 0, 1, ((1, 1, 1),))
GREATEST_SALE = (12, 12, 24, ((99, 6, 4), (99, 6, 4), (99, 6, 4), (99, 6, 4)))
SALES = (
    LEAST_SALE,
    GREATEST_SALE,
    (0, 12, 24, ((99, 24, 4),)),
    (12, 0, 24, ((99, 24, 4),)),
    (1, 1, 1, ((1, 1, 1),)),
    (1, 2, 2, ((10, 1, 1), (90, 1, 1))),
    (1, 2, 4, ((10, 1, 1), (30, 1, 1))),
    (2, 2, 4, ((10, 1, 1), (30, 1, 2))),
    (3, 4, 10, ((40, 3, 1), (25, 3, 1), (40, 2, 1))),
    (3, 5, 7, ((50, 2, 3), (20, 2, 1))),
    (4, 3, 5, ((10, 1, 1), (20, 1, 2), (30, 1, 3), (40, 1, 4))),
    (5, 12, 23, ((7, 5, 1), (99, 1, 1), (1, 16, 1), (50, 1, 1))),
    (12, 12, 23, ((99, 1, 4), (60, 5, 3), (31, 7, 2), (11, 9, 1))),
    (12, 12, 24, ((1, 1, 1),)),
    (2, 3, 24, ((99, 24, 3),)),
)

GOOD = (3, 4, 10, ((40, 3, 1), (25, 3, 2)))
CLASS = (40, 3, 1)
NO_BOUNDED = NO_WHOLES + ((3, 1), (0,), "3", [3], {3: 3}, GREAT, -GREAT)


def with_part(whole, at, part):
    """A tuple with another part at a place."""
    return whole[:at] + (part,) + whole[at + 1:]


def with_class(kind):
    """A sale of one class, with all cases."""
    return (3, 4, 24, (kind,))


NO_SALES = (
    OTHER_KINDS
    + tuple(with_part(GOOD, 0, part) for part in NO_BOUNDED + (-1, 13))
    + tuple(with_part(GOOD, 1, part) for part in NO_BOUNDED + (-1, 13))
    + tuple(with_part(GOOD, 2, part) for part in NO_BOUNDED + (0, -1, -24, 5, 25))
    + tuple(with_part(GOOD, 3, part) for part in OTHER_KINDS + (
        (), CLASS, (CLASS[0],), list(GOOD[3]), [CLASS], ((),), (CLASS, ()), (CLASS, None), (CLASS, 1), (CLASS, CLASS[:2]),
        ((40, 1, 1),) * 5, ((40, 1, 1),) * 6, {CLASS: CLASS}, (GOOD[3],), ((1, 1),), ((1, 1, 1, 1),), ((1, 1, 1), "111"),
    ))
    + tuple(with_class(kind) for kind in OTHER_KINDS)
    + tuple(with_class(with_part(CLASS, 0, part)) for part in NO_BOUNDED + (0, -1, 100))
    + tuple(with_class(with_part(CLASS, 1, part)) for part in NO_BOUNDED + (0, -1, 25))
    + tuple(with_class(with_part(CLASS, 2, part)) for part in NO_BOUNDED + (0, -1, 5))
    + tuple(with_class(kind) for kind in (
        (), (40,), (40, 3), (40, 3, 1, 1), (40, 3, 1, None), [40, 3, 1], "431", {40: 1, 3: 1, 1: 1}, ((40, 3, 1),), (40, 3, (1,)),
    ))
    + (
        (), (3,), (3, 4), GOOD[:3], GOOD[1:], GOOD + (1,), GOOD + ((),), GOOD + GOOD, (GOOD,), list(GOOD), [list(GOOD)],
        GOOD[::-1], (3, 4, 10, 40, 3, 1), (3, 4, 10, (40, 3, 1)), dict(enumerate(GOOD)), "3 4 10 40/3/1 25/3/2",
        (3, 4, 24, ((40, 12, 1), (25, 13, 1))), (3, 4, 24, ((40, 6, 1), (25, 6, 1), (9, 6, 1), (1, 7, 1))),
        (3, 4, 24, ((40, -1, 1), (25, 25, 1))), (3, 4, 24, ((40, 0, 1), (25, 24, 1))), (0, 0, 1, ((1, 1, 1), (1, 1, 1))),
        (0, 0, 0, ((1, 1, 1),)), (0, 0, 0, ()), (3, 4, 24, ((40, True, 1), (25, 3, 1))), (3, 4, 24, ((40, 3, 1), (25, 3, True))),
        (3, 4, 24, ((40, GREAT, 1), (25, 1, 1))), (3, 4, 24, ((40, 1, 1), (25, GREAT, 1))), (3, 4, 24, ([40, 1, 1], (25, 1, 1))),
    )
)
# Python refuses to write numbers as long as these, so they stand apart from those that a failing test shows.
LONG_NO_SALES = (
    (10 ** 5000, 4, 10, (CLASS,)), (3, -(10 ** 5000), 10, (CLASS,)), (3, 4, 10 ** 5000, (CLASS,)),
    (3, 4, 10, ((10 ** 5000, 3, 1),)), (3, 4, 10, ((40, 10 ** 5000, 1),)), (3, 4, 10, ((40, 3, -(10 ** 5000)),)),
)


def drawn_sales(seed, many, most_seats=12, most_periods=12, most_size=4):
    """Sales that a told seed draws, always the same ones."""
    draw = random.Random(seed)
    sales = []
    for k in range(many):
        cases = draw.randint(4, 24)
        ends = sorted(draw.sample(range(1, cases + 1), draw.randint(1, 4)))
        kinds = [
            (draw.randint(1, 99), end - start, draw.randint(1, most_size)) for start, end in zip([0] + ends, ends)
        ]
        sales.append((draw.randint(0, most_seats), draw.randint(0, most_periods), cases, tuple(kinds)))
    return tuple(sales)


LEAST_NET = ((0,), 0, 1, ((1, 1, (0,)),))
GREATEST_NET = (
    (4, 4, 4), 6, 24, ((99, 5, (0, 1, 2)), (99, 5, (0, 1)), (99, 5, (1, 2)), (99, 5, (0, 2)), (99, 4, (1,))),
)
NETS = (
    LEAST_NET,
    GREATEST_NET,
    ((1,), 1, 2, ((10, 1, (0,)),)),
    ((0,), 6, 24, ((99, 24, (0,)),)),
    ((4,), 0, 24, ((99, 24, (0,)),)),
    ((2,), 3, 2, ((10, 1, (0,)), (90, 1, (0,)))),
    ((1, 1), 2, 2, ((30, 1, (0, 1)), (40, 1, (0,)))),
    ((0, 2), 3, 5, ((30, 2, (0, 1)), (40, 2, (1,)), (50, 1, (0,)))),
    ((2, 1), 4, 7, ((60, 2, (0, 1)), (25, 3, (0,)), (31, 1, (1,)))),
    ((1, 2, 1), 5, 10, ((90, 2, (0, 1, 2)), (40, 3, (0,)), (30, 2, (1,)), (45, 1, (2,)), (60, 2, (0, 2)))),
    ((4, 3, 2), 6, 23, ((97, 4, (0, 1, 2)), (41, 5, (0, 1)), (43, 5, (1, 2)), (19, 4, (2,)), (7, 5, (0,)))),
    ((4, 0, 4), 6, 24, ((99, 6, (0, 2)), (50, 6, (1,)), (20, 6, (0,)))),
    ((2, 2, 2), 3, 4, ((1, 1, (2,)),)),
)
GOOD_NET = ((2, 3), 4, 10, ((60, 3, (0, 1)), (25, 3, (1,))))
PRODUCT = (60, 3, (0, 1))


def with_product(product):
    """A net of two legs and one product, with all cases."""
    return ((2, 3), 4, 24, (product,))


NO_NETS = (
    OTHER_KINDS
    + tuple(with_part(GOOD_NET, 0, part) for part in OTHER_KINDS + (
        (), (2,), (2, 3, 1, 1), (0, 0, 0, 0), [2, 3], (2, -1), (-1, 3), (5, 3), (2, 5), (2, True), (False, 3), (2, None), (2, "3"),
        (2, [3]), ((2,), (3,)), ((2, 3),), (2, GREAT), {2: 3, 3: 2},
    ))
    + tuple(with_part(GOOD_NET, 1, part) for part in NO_BOUNDED + (-1, 7))
    + tuple(with_part(GOOD_NET, 2, part) for part in NO_BOUNDED + (0, -1, 5, 25))
    + tuple(with_part(GOOD_NET, 3, part) for part in OTHER_KINDS + (
        (), PRODUCT, list(GOOD_NET[3]), ((),), (PRODUCT, ()), (PRODUCT, None), (PRODUCT, 1), (PRODUCT, PRODUCT[:2]), (GOOD_NET[3],),
        ((60, 1, (0, 1)),) * 6, ((60, 1, (0, 1)),) * 7, {PRODUCT: PRODUCT}, ((60, 3, (0, 1), 1),),
    ))
    + tuple(with_product(part) for part in OTHER_KINDS)
    + tuple(with_product(with_part(PRODUCT, 0, part)) for part in NO_BOUNDED + (0, -1, 100))
    + tuple(with_product(with_part(PRODUCT, 1, part)) for part in NO_BOUNDED + (0, -1, 25))
    + tuple(with_product(with_part(PRODUCT, 2, part)) for part in OTHER_KINDS + (
        (), (2,), (-1,), (0, 2), (1, 0), (0, 0), (1, 1), (0, 1, 1), (0, 1, 2), (True,), (False,), (0, True), (False, 1), [0], [0, 1],
        (None,), ("0",), ("0", "1"), ((0,), (1,)), ((0, 1),), ([0],), {0: 1, 1: 0}, (GREAT,), (-GREAT, 0), (0, None), (None, 0),
    ))
    + (
        (), GOOD_NET[:3], GOOD_NET[1:], GOOD_NET + (1,), GOOD_NET + ((),), GOOD_NET * 2, (GOOD_NET,), list(GOOD_NET), GOOD_NET[::-1],
        dict(enumerate(GOOD_NET)), GOOD, SALES[5], with_part(GOOD_NET, 0, 2),
        ((2, 3), 4, 24, ((60, 12, (0, 1)), (25, 13, (1,)))), ((2, 3), 4, 24, ((60, 0, (0, 1)), (25, 24, (1,)))),
        ((2, 3), 4, 24, ((60, -1, (0, 1)), (25, 25, (1,)))), ((2, 3), 4, 24, ((60, 3, (0, 1)), [25, 3, (1,)])),
        ((2, 3), 4, 24, ((60, 3, (0, 1)), (25, 3, (2,)))), ((2,), 4, 24, ((60, 3, (0, 1)),)), ((2, 3), 4, 5, GOOD_NET[3]),
        ((1, 1, 1), 4, 24, ((60, 3, (0, 1, 2, 3)),)), ((1, 1, 1), 4, 24, ((60, 3, (0, 2, 1)),)),
    )
)
LONG_NO_NETS = (
    ((10 ** 5000,), 4, 10, ((60, 3, (0,)),)), ((2,), -(10 ** 5000), 10, ((60, 3, (0,)),)), ((2,), 4, 10 ** 5000, ((60, 3, (0,)),)),
    ((2,), 4, 10, ((10 ** 5000, 3, (0,)),)), ((2,), 4, 10, ((60, 10 ** 5000, (0,)),)), ((2,), 4, 10, ((60, 3, (10 ** 5000,)),)),
)
# Things in the place of a fraction from nought on.
NO_AMOUNTS = OTHER_KINDS + (
    (0, 2), (2, 4), (10, 2), (5, 0), (0, 0), (0, -1), (-1, 1), (-1, 2), (-GREAT, 1), (5, -1), (-5, -1), (), (5,), (5, 1, 1), (0, 1, 1),
    (True, 1), (False, 1), (5, True), (0, True), (None, 1), (5, None), ("5", 1), (5, "1"), ((5, 1),), ((5, 1), 1), ([5], 1), "51",
    (GREAT, GREAT), [5, 1],
)


def no_rows(net, many):
    """Things that are no tuple of so many fractions from nought on, in the place of a net's prices or amounts."""
    good = ((0, 1),) * many
    return OTHER_KINDS + (
        (), good + ((0, 1),), good[1:], (good,), list(good), [list(one) for one in good], dict(enumerate(good)), good + ((),), good + (None,),
        good * 6, net, net[0], net[3], (0, 1), (0,) * many, ((0, 1, 1),) * many, (None,) * many,
    ) + tuple(with_part(good, at, part) for at in range(many) for part in NO_AMOUNTS)


def drawn_nets(seed, many, most_seats=4, most_periods=6):
    """Nets that a told seed draws, always the same ones."""
    draw = random.Random(seed)
    nets = []
    for k in range(many):
        legs = tuple(draw.randint(0, most_seats) for leg in range(draw.randint(1, 3)))
        cases = draw.randint(5, 24)
        ends = sorted(draw.sample(range(1, cases + 1), draw.randint(1, 5)))
        products = [
            (draw.randint(1, 99), end - start, tuple(sorted(draw.sample(range(len(legs)), draw.randint(1, len(legs))))))
            for start, end in zip([0] + ends, ends)
        ]
        nets.append((legs, draw.randint(0, most_periods), cases, tuple(products)))
    return tuple(nets)


class Cases(unittest.TestCase):
    def refuses(self, due, asked, *places, **names):
        """The class itself is due, not one above or below it."""
        with self.assertRaises(ValueError) as kept:
            asked(*places, **names)
        self.assertIs(type(kept.exception), due)
        self.assertIs(type(kept.exception.args[0]), str)

    def same_fraction(self, told, due):
        """Kinds too: (True, 1) equals (1, 1) to Python."""
        self.assertEqual(told, due)
        self.assertEqual([type(told), type(told[0]), type(told[1])], [tuple, int, int])

    def same_number(self, told, due):
        """A whole number, no truth: True equals 1 to Python."""
        self.assertEqual(told, due)
        self.assertIs(type(told), int)

    def asked_by(self, asked, *names, **left_out):
        """Each argument may be handed in by its place or its name, and none may be left out; but what is told with what it
        is then, which stands behind the others, by its name alone.
        """
        parameters = inspect.signature(asked).parameters
        self.assertEqual(list(parameters), list(names) + list(left_out))
        for name, one in parameters.items():
            if name in left_out:
                self.assertIs(one.kind, inspect.Parameter.KEYWORD_ONLY)
                self.assertEqual(repr(one.default), repr(left_out[name]))
            else:
                self.assertIs(one.kind, inspect.Parameter.POSITIONAL_OR_KEYWORD)
                self.assertIs(one.default, inspect.Parameter.empty)

    def leaves_as_it_was(self, asked, *places, **names):
        """What is handed in is the same behind it, told or refused; and the same is told again."""
        kept, shown = copy.deepcopy((places, names)), repr((places, names))
        answers = []
        for turn in range(2):
            try:
                answers.append(asked(*places, **names))
            except ValueError as refusal:
                answers.append((type(refusal), str(refusal)))
        self.assertEqual((places, names), kept)
        self.assertEqual(repr((places, names)), shown)
        self.assertEqual(answers[0], answers[1])
        self.assertEqual(repr(answers[0]), repr(answers[1]))
