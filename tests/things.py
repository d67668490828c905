"""What several tests share: things of whatever kind, sales and what is none, and what is looked at again and again."""

import copy
import inspect
import random
import unittest

GREAT = 10 ** 30 - 1


def nested(depth):
    """A list in a tuple in a list .., so many deep."""
    thing = []
    for k in range(depth - 1):
        thing = (thing,) if k % 2 else [thing]
    return thing


OTHER_KINDS = (
    None, True, False, 0, 1, -1, GREAT, -GREAT, "", "0", "1/2", "(0, 1)", "12", "ab", "a\tb\n", "x" * 1000,
    [], [0, 1], [1, 2], [-1, 2], [1], [1, 2, 3], [(0, 1)], [[0, 1]], {}, {0: 1}, {1: 2}, {0: 0, 1: 1}, {"top": 1, "bottom": 2},
    {(0, 1): (0, 1)}, nested(9), nested(10), [0] * 1999, {k: k for k in range(900)}, [[0, 1], {"a": (None, [True])}],
)
NO_WHOLES = (None, True, False, "", "1", "ab", [], [1], (), (1,), (1, 2), (0, 1), {}, {1: 1}, nested(10), [0] * 1999)

LEAST_SALE = (0, 0, 1, ((1, 1, 1),))
GREATEST_SALE = (12, 12, 24, ((99, 6, 4), (99, 6, 4), (99, 6, 4), (99, 6, 4)))
SALES = (
    LEAST_SALE,
    GREATEST_SALE,
    (0, 12, 24, ((99, 24, 4),)),
    (12, 0, 24, ((99, 24, 4),)),
    (1, 1, 1, ((1, 1, 1),)),
    (1, 2, 2, ((10, 1, 1), (90, 1, 1))),
    (1, 2, 4, ((10, 1, 1), (30, 1, 1))),
    (2, 2, 4, ((10, 1, 1), (30, 1, 2))),
    (3, 4, 10, ((40, 3, 1), (25, 3, 1), (40, 2, 1))),
    (3, 5, 7, ((50, 2, 3), (20, 2, 1))),
    (4, 3, 5, ((10, 1, 1), (20, 1, 2), (30, 1, 3), (40, 1, 4))),
    (5, 12, 23, ((7, 5, 1), (99, 1, 1), (1, 16, 1), (50, 1, 1))),
    (12, 12, 23, ((99, 1, 4), (60, 5, 3), (31, 7, 2), (11, 9, 1))),
    (12, 12, 24, ((1, 1, 1),)),
    (2, 3, 24, ((99, 24, 3),)),
)

GOOD = (3, 4, 10, ((40, 3, 1), (25, 3, 2)))
CLASS = (40, 3, 1)
NO_BOUNDED = NO_WHOLES + ((3, 1), (0,), "3", [3], {3: 3}, GREAT, -GREAT)


def with_part(whole, at, part):
    """A tuple with another part at a place."""
    return whole[:at] + (part,) + whole[at + 1:]


def with_class(kind):
    """A sale of one class, with all cases."""
    return (3, 4, 24, (kind,))


NO_SALES = (
    OTHER_KINDS
    + tuple(with_part(GOOD, 0, part) for part in NO_BOUNDED + (-1, 13))
    + tuple(with_part(GOOD, 1, part) for part in NO_BOUNDED + (-1, 13))
    + tuple(with_part(GOOD, 2, part) for part in NO_BOUNDED + (0, -1, -24, 5, 25))
    + tuple(with_part(GOOD, 3, part) for part in OTHER_KINDS + (
        (), CLASS, (CLASS[0],), list(GOOD[3]), [CLASS], ((),), (CLASS, ()), (CLASS, None), (CLASS, 1), (CLASS, CLASS[:2]),
        ((40, 1, 1),) * 5, ((40, 1, 1),) * 6, {CLASS: CLASS}, (GOOD[3],), ((1, 1),), ((1, 1, 1, 1),), ((1, 1, 1), "111"),
    ))
    + tuple(with_class(kind) for kind in OTHER_KINDS)
    + tuple(with_class(with_part(CLASS, 0, part)) for part in NO_BOUNDED + (0, -1, 100))
    + tuple(with_class(with_part(CLASS, 1, part)) for part in NO_BOUNDED + (0, -1, 25))
    + tuple(with_class(with_part(CLASS, 2, part)) for part in NO_BOUNDED + (0, -1, 5))
    + tuple(with_class(kind) for kind in (
        (), (40,), (40, 3), (40, 3, 1, 1), (40, 3, 1, None), [40, 3, 1], "431", {40: 1, 3: 1, 1: 1}, ((40, 3, 1),), (40, 3, (1,)),
    ))
    + (
        (), (3,), (3, 4), GOOD[:3], GOOD[1:], GOOD + (1,), GOOD + ((),), GOOD + GOOD, (GOOD,), list(GOOD), [list(GOOD)],
        GOOD[::-1], (3, 4, 10, 40, 3, 1), (3, 4, 10, (40, 3, 1)), dict(enumerate(GOOD)), "3 4 10 40/3/1 25/3/2",
        (3, 4, 24, ((40, 12, 1), (25, 13, 1))), (3, 4, 24, ((40, 6, 1), (25, 6, 1), (9, 6, 1), (1, 7, 1))),
        (3, 4, 24, ((40, -1, 1), (25, 25, 1))), (3, 4, 24, ((40, 0, 1), (25, 24, 1))), (0, 0, 1, ((1, 1, 1), (1, 1, 1))),
        (0, 0, 0, ((1, 1, 1),)), (0, 0, 0, ()), (3, 4, 24, ((40, True, 1), (25, 3, 1))), (3, 4, 24, ((40, 3, 1), (25, 3, True))),
        (3, 4, 24, ((40, GREAT, 1), (25, 1, 1))), (3, 4, 24, ((40, 1, 1), (25, GREAT, 1))), (3, 4, 24, ([40, 1, 1], (25, 1, 1))),
    )
)
# Python refuses to write numbers as long as these, so they stand apart from those that a failing test shows.
LONG_NO_SALES = (
    (10 ** 5000, 4, 10, (CLASS,)), (3, -(10 ** 5000), 10, (CLASS,)), (3, 4, 10 ** 5000, (CLASS,)),
    (3, 4, 10, ((10 ** 5000, 3, 1),)), (3, 4, 10, ((40, 10 ** 5000, 1),)), (3, 4, 10, ((40, 3, -(10 ** 5000)),)),
)


def drawn_sales(seed, many, most_seats=12, most_periods=12, most_size=4):
    """Sales that a told seed draws, always the same ones."""
    draw = random.Random(seed)
    sales = []
    for k in range(many):
        cases = draw.randint(4, 24)
        ends = sorted(draw.sample(range(1, cases + 1), draw.randint(1, 4)))
        kinds = [
            (draw.randint(1, 99), end - start, draw.randint(1, most_size)) for start, end in zip([0] + ends, ends)
        ]
        sales.append((draw.randint(0, most_seats), draw.randint(0, most_periods), cases, tuple(kinds)))
    return tuple(sales)


class Cases(unittest.TestCase):
    def refuses(self, due, asked, *places, **names):
        """The class itself is due, not one above or below it."""
        with self.assertRaises(ValueError) as kept:
            asked(*places, **names)
        self.assertIs(type(kept.exception), due)
        self.assertIs(type(kept.exception.args[0]), str)

    def same_fraction(self, told, due):
        """Kinds too: (True, 1) equals (1, 1) to Python."""
        self.assertEqual(told, due)
        self.assertEqual([type(told), type(told[0]), type(told[1])], [tuple, int, int])

    def asked_by(self, asked, *names):
        """Each argument may be handed in by its place or its name, and none may be left out."""
        parameters = inspect.signature(asked).parameters
        self.assertEqual(list(parameters), list(names))
        for one in parameters.values():
            self.assertIs(one.kind, inspect.Parameter.POSITIONAL_OR_KEYWORD)
            self.assertIs(one.default, inspect.Parameter.empty)

    def leaves_as_it_was(self, asked, *places):
        """What is handed in is the same behind it, told or refused; and the same is told again."""
        kept, shown = copy.deepcopy(places), repr(places)
        answers = []
        for turn in range(2):
            try:
                answers.append(asked(*places))
            except ValueError as refusal:
                answers.append((type(refusal), str(refusal)))
        self.assertEqual(places, kept)
        self.assertEqual(repr(places), shown)
        self.assertEqual(answers[0], answers[1])
        self.assertEqual(repr(answers[0]), repr(answers[1]))
