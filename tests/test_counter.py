"""Tests of counters: point [70], and [2] to [5] as far as they bear on them."""

import inspect
import random
import unittest
from fractions import Fraction

from plainly import PlainCounter, exact, pair, what_comes
from seatworth.counter import Counter
from seatworth.errors import NoClass, NoSale, Nothing, Over
from seatworth.fractions import is_fraction
from seatworth.marks import opened
from seatworth.worths import worth
from things import GOOD, GREAT, GREATEST_SALE, LEAST_SALE, LONG_NO_SALES, NO_SALES, NO_WHOLES, OTHER_KINDS, SALES, Cases, drawn_sales

# At time 2 one seat behind it is worth 50, so one of 10 is sold only where two are left.
SINGLE = (2, 2, 2, ((10, 1, 1), (90, 1, 1)))
BAD_NUMBERS = NO_WHOLES + (-1, 2, 3, GREAT, -GREAT)


def after(sale, *came):
    """A counter at which this came."""
    counter = Counter(sale)
    for number in came:
        if number is None:
            counter.none()
        else:
            counter.ask(number)
    return counter


class CounterCases(Cases):
    def stands(self, counter, left, time, earned, came, worth_now):
        """All that a counter tells, with its kinds."""
        self.same_number(counter.left(), left)
        self.same_number(counter.time(), time)
        self.same_number(counter.earned(), earned)
        told = counter.came()
        self.assertIs(type(told), list)
        self.assertEqual([(type(one), one) for one in told], [(type(one), one) for one in came])
        self.same_fraction(counter.worth_now(), worth_now)
        self.same_number(len(counter), len(came))
        self.assertEqual(repr(counter), f"Counter({left} left, {time} to come, {earned} earned)")

    def stands_as(self, counter, plain):
        """All that a counter tells is what the plain one does."""
        self.stands(counter, *plain.stand(), plain.past, pair(plain.worth_now()))


class ByHand(CounterCases):
    def test_at_first(self):
        self.stands(Counter(SINGLE), 2, 2, 0, [], (100, 1))
        self.stands(Counter(LEAST_SALE), 0, 0, 0, [], (0, 1))
        self.stands(Counter(GREATEST_SALE), 12, 12, 0, [], (297, 1))
        for sale in SALES:
            self.stands(Counter(sale), sale[0], sale[1], 0, [], worth(sale, sale[1], sale[0]))

    def test_asks_that_are_sold(self):
        counter = Counter(SINGLE)
        self.assertIs(counter.ask(0), True)
        self.stands(counter, 1, 1, 10, [0], (60, 1))
        self.assertIs(counter.ask(1), True)
        self.stands(counter, 0, 0, 100, [0, 1], (100, 1))

    def test_asks_that_are_kept(self):
        counter = Counter((1,) + SINGLE[1:])
        self.assertIs(counter.ask(0), False)
        self.stands(counter, 1, 1, 0, [0], (50, 1))
        self.assertIs(counter.ask(0), True)
        self.stands(counter, 0, 0, 10, [0, 0], (10, 1))

    def test_asks_that_cannot_be_sold(self):
        counter = Counter((1, 3, 2, ((10, 1, 2), (90, 1, 1))))
        self.assertIs(counter.ask(0), False)
        self.stands(counter, 1, 2, 0, [0], (135, 2))
        self.assertIs(counter.ask(1), True)
        self.assertIs(counter.ask(1), False)
        self.stands(counter, 0, 0, 90, [0, 1, 1], (90, 1))
        counter = Counter((0, 1, 2, ((10, 1, 1),)))
        self.assertIs(counter.ask(0), False)
        self.stands(counter, 0, 0, 0, [0], (0, 1))

    def test_just_the_same_is_sold(self):
        self.assertIs(Counter((1, 2, 4, ((10, 1, 1), (30, 1, 1)))).ask(0), True)
        self.assertIs(Counter((1, 2, 3, ((10, 1, 1), (30, 1, 1)))).ask(0), False)

    def test_sizes(self):
        counter = Counter((4, 2, 4, ((10, 1, 1), (80, 1, 3))))
        self.assertIs(counter.ask(1), True)
        self.stands(counter, 1, 1, 80, [1], (165, 2))
        self.assertIs(counter.ask(1), False)
        self.stands(counter, 1, 0, 80, [1, 1], (80, 1))

    def test_none(self):
        counter = Counter((1, 2, 4, ((10, 1, 1),)))
        self.assertIsNone(counter.none())
        self.stands(counter, 1, 1, 0, [None], (5, 2))
        self.assertIsNone(counter.none())
        self.stands(counter, 1, 0, 0, [None, None], (0, 1))

    def test_none_where_by_the_shares_one_always_comes(self):
        counter = Counter(SINGLE)
        self.assertIsNone(counter.none())
        self.stands(counter, 2, 1, 0, [None], (50, 1))

    def test_undo(self):
        counter = after(SINGLE, 0, None)
        self.assertIsNone(counter.undo())
        self.stands(counter, 1, 1, 10, [0], (60, 1))
        self.assertIs(counter.ask(1), True)
        self.stands(counter, 0, 0, 100, [0, 1], (100, 1))
        self.assertIsNone(counter.undo())
        self.assertIsNone(counter.undo())
        self.stands(counter, 2, 2, 0, [], (100, 1))
        self.refuses(Nothing, counter.undo)
        self.assertIs(counter.ask(1), True)
        self.stands(counter, 1, 1, 90, [1], (140, 1))

    def test_undo_of_a_kept_ask(self):
        counter = Counter((1,) + SINGLE[1:])
        self.assertIs(counter.ask(0), False)
        counter.undo()
        self.stands(counter, 1, 2, 0, [], (70, 1))

    def test_what_a_refused_undo_leaves(self):
        counter = Counter(SINGLE)
        for turn in range(3):
            self.refuses(Nothing, counter.undo)
            self.stands(counter, 2, 2, 0, [], (100, 1))


class Drawn(CounterCases):
    def deed(self, draw, counter, plain):
        """One drawn deed at both counters."""
        kinds = len(plain.sale[3])
        left, time, earned = plain.stand()
        number = draw.choice(list(range(kinds)) + [None, "undo", kinds])
        if number == "undo":
            if plain.past:
                self.assertIsNone(counter.undo())
                plain.past.pop()
            else:
                self.refuses(Nothing, counter.undo)
        elif number == kinds:
            self.refuses(NoClass, counter.ask, number)
        elif time == 0:
            self.refuses(Over, *([counter.none] if number is None else [counter.ask, number]))
        elif number is None:
            self.assertIsNone(counter.none())
            plain.past.append(None)
        else:
            self.assertIs(counter.ask(number), plain.is_sold(number, time, left))
            plain.past.append(number)

    def test_many_deeds(self):
        draw = random.Random(110)
        for sale in SALES + drawn_sales(111, 25):
            counter, plain = Counter(sale), PlainCounter(sale)
            for turn in range(30):
                self.deed(draw, counter, plain)
                self.stands_as(counter, plain)

    def test_many_counters_by_turns(self):
        draw = random.Random(112)
        for sale in (SINGLE, GOOD, SALES[9], SALES[12]):
            both = [(Counter(sale), PlainCounter(sale)) for k in range(3)]
            for turn in range(60):
                counter, plain = draw.choice(both)
                if draw.random() < 0.2 and len(both) < 6:
                    twin = PlainCounter(sale)
                    twin.past = list(plain.past)
                    both.append((counter.twin(), twin))
                self.deed(draw, counter, plain)
                for one, other in both:
                    self.stands_as(one, other)
                    for again, more in both:
                        self.assertIs(one == again, other.past == more.past)
                        self.assertIs(one != again, other.past != more.past)

    def test_the_mean_over_all_cases_of_a_period_is_what_it_was_ahead(self):
        draw = random.Random(113)
        for sale in SALES + drawn_sales(114, 25):
            counter = Counter(sale)
            while counter.time() > 0:
                mean = Fraction(0)
                for number, share in what_comes(sale).items():
                    twin = counter.twin()
                    twin.none() if number is None else twin.ask(number)
                    mean += Fraction(share, sale[2]) * exact(twin.worth_now())
                self.same_fraction(counter.worth_now(), pair(mean))
                self.assertIs(is_fraction(counter.worth_now()), True)
                number = draw.choice(list(what_comes(sale)))
                counter.none() if number is None else counter.ask(number)
            self.same_fraction(counter.worth_now(), (counter.earned(), 1))

    def test_it_sells_where_a_class_is_open(self):
        for sale in SALES + drawn_sales(115, 15):
            for number in range(len(sale[3])):
                counter = Counter(sale)
                while counter.time() > 0:
                    left, time = counter.left(), counter.time()
                    self.assertIs(counter.ask(number), left in opened(sale, number, time))


class Refusals(CounterCases):
    def test_no_sale(self):
        for sale in NO_SALES:
            with self.subTest(sale=sale):
                self.refuses(NoSale, Counter, sale)
        for sale in LONG_NO_SALES:
            self.refuses(NoSale, Counter, sale)
        self.refuses(NoSale, Counter, "2 2 2 10/1/1 90/1/1")

    def test_no_class(self):
        counter = after(SINGLE, 0)
        for number in BAD_NUMBERS:
            with self.subTest(number=number):
                self.refuses(NoClass, counter.ask, number)
                self.stands(counter, 1, 1, 10, [0], (60, 1))
        self.refuses(NoClass, counter.ask, 10 ** 5000)
        for many in range(1, 5):
            sale = (1, 1, 24, ((1, 1, 1),) * many)
            for number in range(-5, 9):
                if 0 <= number < many:
                    self.assertIs(Counter(sale).ask(number), True)
                else:
                    self.refuses(NoClass, Counter(sale).ask, number)

    def test_over(self):
        for counter in (after(SINGLE, 0, 1), after(SINGLE, None, None)):
            kept = (counter.left(), 0, counter.earned(), counter.came(), counter.worth_now())
            for number in (0, 1):
                self.refuses(Over, counter.ask, number)
                self.stands(counter, *kept)
            self.refuses(Over, counter.none)
            self.stands(counter, *kept)
        self.refuses(Over, Counter(LEAST_SALE).ask, 0)
        self.refuses(Over, Counter(LEAST_SALE).none)
        self.refuses(Over, Counter((2, 0, 3, ((6, 1, 1),))).ask, 0)

    def test_no_class_is_ahead_of_over(self):
        counter = after(SINGLE, 0, 1)
        for number in BAD_NUMBERS:
            self.refuses(NoClass, counter.ask, number)
            self.refuses(NoClass, Counter(LEAST_SALE).ask, 1 if number == 0 else number)
        self.stands(counter, 0, 0, 100, [0, 1], (100, 1))

    def test_over_is_over_no_more_behind_undo(self):
        counter = after(SINGLE, 0, 1)
        self.refuses(Over, counter.none)
        counter.undo()
        self.assertIsNone(counter.none())
        self.stands(counter, 1, 0, 10, [0, None], (10, 1))

    def test_what_is_refused_cannot_be_undone(self):
        counter = after(SINGLE, 0, 1)
        self.refuses(Over, counter.ask, 0)
        self.refuses(NoClass, counter.ask, 5)
        self.refuses(Over, counter.none)
        counter.undo()
        self.stands(counter, 1, 1, 10, [0], (60, 1))


class Twins(CounterCases):
    def test_a_twin_goes_on_by_itself(self):
        counter = after(SINGLE, 0)
        twin = counter.twin()
        self.assertIs(type(twin), Counter)
        self.assertIsNot(twin, counter)
        self.stands(twin, 1, 1, 10, [0], (60, 1))
        twin.ask(1)
        self.stands(twin, 0, 0, 100, [0, 1], (100, 1))
        self.stands(counter, 1, 1, 10, [0], (60, 1))
        counter.none()
        self.stands(counter, 1, 0, 10, [0, None], (10, 1))
        self.stands(twin, 0, 0, 100, [0, 1], (100, 1))

    def test_with_what_can_be_undone(self):
        counter = after(SINGLE, 0, 1)
        twin = counter.twin()
        twin.undo()
        twin.undo()
        self.stands(twin, 2, 2, 0, [], (100, 1))
        self.refuses(Nothing, twin.undo)
        self.stands(counter, 0, 0, 100, [0, 1], (100, 1))
        other = counter.twin()
        counter.undo()
        counter.undo()
        self.refuses(Nothing, counter.undo)
        other.undo()
        self.stands(other, 1, 1, 10, [0], (60, 1))

    def test_a_twin_of_a_twin_and_of_nothing(self):
        twin = Counter(SINGLE).twin().twin()
        self.stands(twin, 2, 2, 0, [], (100, 1))
        self.refuses(Nothing, twin.undo)
        self.assertEqual(twin, Counter(SINGLE))

    def test_what_was_undone_is_no_part_of_it(self):
        counter = after(SINGLE, 0, 1)
        counter.undo()
        twin = counter.twin()
        twin.undo()
        self.refuses(Nothing, twin.undo)


class Equality(CounterCases):
    def equal(self, one, other, due):
        self.assertIs(one == other, due)
        self.assertIs(other == one, due)
        self.assertIs(one != other, not due)
        self.assertIs(other != one, not due)

    def test_equal_ones(self):
        self.equal(Counter(SINGLE), Counter(SINGLE), True)
        self.equal(after(SINGLE, 0, None), after(SINGLE, 0, None), True)
        self.equal(after(SINGLE, 0), after(SINGLE, 0).twin(), True)
        one = after(SINGLE, 0)
        self.equal(one, one, True)
        undone = after(SINGLE, 0, 1)
        undone.undo()
        self.equal(undone, one, True)
        undone.undo()
        self.equal(undone, Counter(SINGLE), True)
        for sale in SALES:
            self.equal(Counter(sale), Counter(tuple(list(sale))), True)

    def test_unlike_ones(self):
        self.equal(after(SINGLE, 0), after(SINGLE, 1), False)
        self.equal(after(SINGLE, 0), after(SINGLE, None), False)
        self.equal(after(SINGLE, 0, None), after(SINGLE, None, 0), False)
        self.equal(after(SINGLE, 0), after(SINGLE, 0, None), False)
        self.equal(Counter(SINGLE), after(SINGLE, None), False)
        for at, one in enumerate(SALES):
            for place, other in enumerate(SALES):
                self.equal(Counter(one), Counter(other), at == place)

    def test_the_same_left_but_another_thing_came(self):
        # Both are kept, so left, time and earned are the same.
        sale = (0, 2, 3, ((10, 1, 1), (90, 1, 1)))
        self.equal(after(sale, 0), after(sale, 1), False)
        self.equal(after(sale, 0), after(sale, None), False)
        self.assertEqual(repr(after(sale, 0)), repr(after(sale, 1)))

    def test_the_same_came_of_another_sale(self):
        self.equal(after(SINGLE, 0), after((3,) + SINGLE[1:], 0), False)
        self.equal(after(SINGLE, 0), after(SINGLE[:2] + (3,) + SINGLE[3:], 0), False)
        self.equal(after(SINGLE, 0), after(SINGLE[:3] + (((10, 1, 1), (91, 1, 1)),), 0), False)

    def test_things_of_other_kinds(self):
        counter = after(SINGLE, 0)
        for thing in OTHER_KINDS + (SINGLE, [0], (SINGLE, [0]), repr(counter), PlainCounter(SINGLE), Counter, object(), 1, len(counter)):
            self.equal(counter, thing, False)
        for thing in (LEAST_SALE, [], 0, None, "", ()):
            self.equal(Counter(LEAST_SALE), thing, False)
        self.assertNotIn(counter, list(OTHER_KINDS))


class LenAndRepr(CounterCases):
    def test_len(self):
        counter = Counter(GREATEST_SALE)
        for many in range(13):
            self.same_number(len(counter), many)
            if many < 12:
                counter.none()
        counter.undo()
        self.same_number(len(counter), 11)

    def test_repr(self):
        self.assertEqual(repr(after((4, 4, 5, ((40, 3, 1), (20, 1, 1))), 0, None)), "Counter(3 left, 2 to come, 40 earned)")
        self.assertEqual(repr(Counter(LEAST_SALE)), "Counter(0 left, 0 to come, 0 earned)")
        self.assertEqual(repr(after(GREATEST_SALE, 0, 1, 2, 3)), "Counter(0 left, 8 to come, 297 earned)")
        self.assertEqual(repr(Counter(GREATEST_SALE)), "Counter(12 left, 12 to come, 0 earned)")


class Asking(CounterCases):
    def test_each_method_is_defined_in_the_class(self):
        for name in ("ask", "none", "undo", "left", "time", "earned", "came", "worth_now", "twin", "__len__", "__eq__", "__repr__"):
            self.assertIn(name, vars(Counter))

    def test_by_places_and_by_names(self):
        self.asked_by(Counter, "sale")
        counter = Counter(sale=SINGLE)
        self.asked_by(counter.ask, "number")
        for asked in (
            counter.none, counter.undo, counter.left, counter.time, counter.earned, counter.came, counter.worth_now, counter.twin,
        ):
            self.assertEqual(list(inspect.signature(asked).parameters), [])
        self.assertIs(counter.ask(number=0), True)
        self.refuses(NoClass, counter.ask, number=2)
        self.refuses(NoSale, Counter, sale=None)
        self.stands(counter, 1, 1, 10, [0], (60, 1))

    def test_asked_the_same_again(self):
        counter = after(SINGLE, 0)
        for turn in range(3):
            self.stands(counter, 1, 1, 10, [0], (60, 1))
            self.assertEqual(counter.twin(), counter)

    def test_a_list_that_is_told_may_be_changed(self):
        counter = after(SINGLE, 0)
        told = counter.came()
        told.append(1)
        told[0] = None
        self.stands(counter, 1, 1, 10, [0], (60, 1))
        self.assertEqual(told, [None, 1])
        again = counter.came()
        counter.none()
        self.assertEqual(again, [0])
        self.assertIsNot(counter.came(), counter.came())
        twin = counter.twin()
        twin.came().clear()
        self.assertEqual([twin.came(), counter.came()], [[0, None], [0, None]])

    def test_what_was_handed_in_is_as_it_was(self):
        for thing in SALES + NO_SALES:
            self.leaves_as_it_was(Counter, thing)
        for number in OTHER_KINDS + BAD_NUMBERS:
            self.leaves_as_it_was(lambda number: after(SINGLE).ask(number), number)

    def test_a_list_made_of_a_sale_is_not_kept(self):
        rows = list(SINGLE)
        counter = Counter(tuple(rows))
        rows[0] = 0
        self.stands(counter, 2, 2, 0, [], (100, 1))

    def test_truths_are_not_taken_for_numbers_told_ahead(self):
        for turn in range(2):
            counter = Counter(SINGLE)
            self.refuses(NoClass, counter.ask, True)
            self.refuses(NoClass, counter.ask, False)
            self.assertIs(counter.ask(1), True)
            self.refuses(NoSale, Counter, (True,) + LEAST_SALE[1:])
            self.refuses(NoSale, Counter, (False,) + LEAST_SALE[1:])


if __name__ == "__main__":
    unittest.main()
