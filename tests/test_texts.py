"""Tests of texts: point [80], and [2] to [5] as far as they bear on them."""

import random
import unittest
from fractions import Fraction

from plainly import pair, plain_fraction_text, plain_sale_read
from seatworth.errors import NoNumber, NoSale, NoText
from seatworth.sales import is_sale
from seatworth.texts import fraction_text, sale_read, sale_text
from seatworth.worths import worths
from things import (
    GOOD, GREAT, GREATEST_SALE, LEAST_SALE, LONG_NO_SALES, NO_AMOUNTS, NO_SALES, NO_WHOLES, OTHER_KINDS, SALES, Cases, drawn_sales,
)

WRITTEN = (
    ("0 0 1 1/1/1", LEAST_SALE),
    ("12 12 24 99/6/4 99/6/4 99/6/4 99/6/4", GREATEST_SALE),
    ("3 4 10 40/3/1 25/3/2", GOOD),
    ("0 12 24 99/24/4", (0, 12, 24, ((99, 24, 4),))),
    ("10 10 10 10/10/1", (10, 10, 10, ((10, 10, 1),))),
    ("2 3 4 1/1/1 2/1/2 3/1/3", (2, 3, 4, ((1, 1, 1), (2, 1, 2), (3, 1, 3)))),
)
NO_TEXTS = tuple(thing for thing in OTHER_KINDS + NO_WHOLES + (GOOD, [], b"", ("0 0 1 1/1/1",), ["0 0 1 1/1/1"]) if type(thing) is not str)
# A text with the number of the first word that is none there.
WRONG = (
    # What lacks: as many as there are words; the empty text is one word that is none.
    ("", 0), ("3", 1), ("3 4", 2), ("3 4 10", 3), ("0", 1), ("0 0", 2), ("0 0 1", 3), ("12 12 24", 3),
    # Blanks too many.
    (" ", 0), ("  ", 0), (" 3 4 10 40/3/1", 0), ("3  4 10 40/3/1", 1), ("3 4  10 40/3/1", 2), ("3 4 10  40/3/1", 3), ("3 ", 1), ("3 4 ", 2),
    ("3 4 10 ", 3), ("3 4 10 40/3/1 ", 4), ("3 4 10 40/3/1  25/3/2", 4), ("3 4 10 40/3/1 25/3/2 ", 5), ("0 0 4 1/1/1 1/1/1 1/1/1 1/1/1 ", 7),
    ("\t3 4 10 40/3/1", 0), ("3\t4 10 40/3/1", 0), ("3 4\n10 40/3/1", 1), ("3 4 10 40/3/1\n", 3), ("3 4 10\n", 2), ("\n", 0), ("3 4 10 \t", 3),
    # Noughts ahead, signs ahead, what are no figures.
    ("03 4 10 40/3/1", 0), ("3 04 10 40/3/1", 1), ("3 4 010 40/3/1", 2), ("3 4 10 040/3/1", 3), ("3 4 10 40/03/1", 3), ("3 4 10 40/3/01", 3),
    ("00 4 10 40/3/1", 0), ("3 00 10 40/3/1", 1), ("-0 4 10 40/3/1", 0), ("+3 4 10 40/3/1", 0), ("-3 4 10 40/3/1", 0), ("3.0 4 10 40/3/1", 0),
    ("3 4 1_0 40/3/1", 2), ("a 4 10 40/3/1", 0), ("3 b 10 40/3/1", 1), ("3 4 c 40/3/1", 2), ("3 4 10 d", 3), ("3 4 10 40/3/e", 3), ("x", 0),
    ("None", 0), ("3 4 10 +40/3/1", 3), ("3 4 10 40/-3/1", 3), ("3 4 10 40/3/1,", 3), ("(3, 4, 10, ((40, 3, 1),))", 0), ("3,4,10 40/3/1", 0),
    # Numbers beyond their bounds.
    ("13 4 10 40/3/1", 0), ("3 13 10 40/3/1", 1), ("3 4 25 40/3/1", 2), ("3 4 0 40/3/1", 2), ("3 4 10 0/3/1", 3), ("3 4 10 100/3/1", 3),
    ("3 4 10 40/0/1", 3), ("3 4 10 40/11/1", 3), ("3 4 10 40/3/0", 3), ("3 4 10 40/3/5", 3), ("100 4 10 40/3/1", 0), ("-1 4 10 40/3/1", 0),
    ("9" * 30 + " 4 10 40/3/1", 0), ("9" * 31 + " 4 10 40/3/1", 0), ("1" + "0" * 30 + " 4 10 40/3/1", 0), ("0" * 31 + " 4 10 40/3/1", 0),
    ("3 4 10 " + "4" * 31 + "/3/1", 3), ("3 4 10 40/" + "3" * 31 + "/1", 3), ("3 4 10 40/3/" + "1" * 31, 3), ("1" * 1000, 0), ("1" * 5000, 0),
    # Classes of another form.
    ("3 4 10 40", 3), ("3 4 10 40/3", 3), ("3 4 10 40/3/1/1", 3), ("3 4 10 40/3/", 3), ("3 4 10 /3/1", 3), ("3 4 10 40//1", 3), ("3 4 10 //", 3),
    ("3 4 10 /", 3), ("3 4 10 40/3/1/", 3), ("3 4 10 /40/3/1", 3), ("3 4 10 40 3 1", 3), ("40/3/1", 0), ("3 4 40/3/1", 2), ("3/4/10 40/3/1", 0),
    # Shares that are more than cases: at the class with whose share they are.
    ("3 4 10 40/10/1 25/1/1", 4), ("3 4 10 40/5/1 25/5/1 9/1/1", 5), ("3 4 10 40/5/1 25/6/1 9/1/1", 4), ("3 4 4 4/1/1 3/1/1 2/1/1 1/2/1", 6),
    ("3 4 1 40/2/1", 3), ("3 4 24 40/24/1 1/24/1", 4), ("3 4 10 40/11/1 0/0/0", 3), ("3 4 10 40/5/1 25/6/1 x", 4),
    # A fifth class, right or wrong.
    ("3 4 10 4/1/1 3/1/1 2/1/1 1/1/1 1/1/1", 7), ("3 4 10 4/1/1 3/1/1 2/1/1 1/1/1 x", 7), ("3 4 10 4/1/1 3/1/1 2/1/1 1/1/1 1/1/1 1/1/1", 7),
    ("3 4 4 4/1/1 3/1/1 2/1/1 1/1/1 1/1/1", 7), ("3 4 10 4/1/1 3/1/1 2/1/1 1/1/9 1/1/1", 6),
    # The first of several.
    ("x y z", 0), ("3 y z", 1), ("3 4 z", 2), ("3 x 10 40/3/1", 1), ("3 x", 1), ("x 4", 0), ("3 4 10 x y", 3), ("3 4 10 40/3/1 y", 4),
    ("13 13 25 0/0/0", 0), ("12 13 25 0/0/0", 1), ("12 12 25 0/0/0", 2), ("12 12 24 0/0/0", 3),
)


class SaleText(Cases):
    def test_by_hand(self):
        for text, sale in WRITTEN:
            told = sale_text(sale)
            self.assertEqual(told, text)
            self.assertIs(type(told), str)

    def test_each_sale_written_and_read_again(self):
        for sale in SALES + (GOOD,) + drawn_sales(120, 300):
            read = sale_read(sale_text(sale))
            self.assertEqual(read, sale)
            self.assertEqual(repr(read), repr(sale))
            self.assertIs(is_sale(read), True)

    def test_no_sale(self):
        for sale in NO_SALES + LONG_NO_SALES:
            self.refuses(NoSale, sale_text, sale)


class SaleRead(Cases):
    def refused_at(self, text, at):
        with self.assertRaises(ValueError) as kept:
            sale_read(text)
        self.assertIs(type(kept.exception), NoText)
        self.same_number(kept.exception.at, at)

    def test_by_hand(self):
        for text, sale in WRITTEN:
            told = sale_read(text)
            self.assertEqual(told, sale)
            self.assertEqual(repr(told), repr(sale))
            self.assertIs(is_sale(told), True)

    def test_numbers_at_their_bounds(self):
        for seats in range(13):
            for periods in range(13):
                self.assertEqual(sale_read(f"{seats} {periods} 1 1/1/1"), (seats, periods, 1, ((1, 1, 1),)))
        for cases in range(1, 25):
            self.assertEqual(sale_read(f"0 0 {cases} 1/{cases}/1"), (0, 0, cases, ((1, cases, 1),)))
        for fare in range(1, 100):
            for size in range(1, 5):
                self.assertEqual(sale_read(f"0 0 1 {fare}/1/{size}"), (0, 0, 1, ((fare, 1, size),)))

    def test_what_writes_none(self):
        for text, at in WRONG:
            with self.subTest(text=text[:80]):
                self.refused_at(text, at)

    def test_the_plain_reading_tells_the_same(self):
        for text, at in WRONG:
            if len(text) <= 1000:
                self.assertEqual(plain_sale_read(text), at)

    def test_what_is_no_text(self):
        for thing in NO_TEXTS:
            with self.subTest(thing=thing):
                self.refused_at(thing, -1)
        self.refused_at(10 ** 5000, -1)

    def test_figures_of_other_writings_are_none(self):
        for sign in ("\u00b2", "\u0663", "\uff13", "\u2462"):
            self.refused_at(f"{sign} 4 10 40/3/1", 0)
            self.refused_at(f"3 4 10 40/{sign}/1", 3)

    def test_each_word_cut_changed_or_doubled(self):
        draw = random.Random(121)
        odd = ("", "0", "1", "00", "01", "-1", "x", "13", "25", "100", "1/1/1", "0/1/1", "1/0/1", "1/1/0", "99/1/4", "1/1", "1/24/1", "1/1/1/1", "/")
        for sale in SALES + drawn_sales(122, 60):
            words = sale_text(sale).split(" ")
            for at in range(len(words)):
                for other in odd:
                    self.held_against_words(" ".join(words[:at] + [other] + words[at + 1:]))
                    self.held_against_words(" ".join(words[:at] + [other] + words[at:]))
                self.held_against_words(" ".join(words[:at] + words[at + 1:]))
                self.held_against_words(" ".join(words[:at]))
                self.held_against_words(" ".join(words[:at] + [words[at]] * 2 + words[at + 1:]))
            draw.shuffle(words)
            self.held_against_words(" ".join(words))

    def test_each_sign_cut_changed_or_doubled(self):
        for sale in (LEAST_SALE, GREATEST_SALE, GOOD, SALES[12]):
            text = sale_text(sale)
            for at in range(len(text)):
                for sign in "0123456789/ -+.ax\t\n~":
                    self.held_against_words(text[:at] + sign + text[at + 1:])
                    self.held_against_words(text[:at] + sign + text[at:])
                self.held_against_words(text[:at] + text[at + 1:])
                self.held_against_words(text[:at])

    def held_against_words(self, text):
        due = plain_sale_read(text)
        if type(due) is int:
            self.refused_at(text, due)
        else:
            self.assertEqual(sale_read(text), due)
            self.assertIs(is_sale(due), True)
            self.assertEqual(sale_text(due), text)


class FractionText(Cases):
    def test_by_hand(self):
        for one, due in (
            ((0, 1), "0/1"), ((1, 1), "1/1"), ((1, 2), "1/2"), ((-1, 2), "-1/2"), ((-7, 1), "-7/1"), ((10, 7), "10/7"), ((100, 1), "100/1"),
            ((GREAT, 1), "9" * 30 + "/1"), ((1, GREAT), "1/" + "9" * 30), ((-GREAT, 10), "-" + "9" * 30 + "/10"),
            ((10 ** 29, 3), "1" + "0" * 29 + "/3"),
        ):
            told = fraction_text(one)
            self.assertEqual(told, due)
            self.assertIs(type(told), str)

    def test_drawn_ones(self):
        draw = random.Random(123)
        for turn in range(300):
            number = Fraction(draw.randint(-GREAT, GREAT), draw.randint(1, 10 ** draw.randint(1, 30)))
            self.assertEqual(fraction_text(pair(number)), plain_fraction_text(number))

    def test_all_worths(self):
        for sale in SALES:
            for row in worths(sale):
                for number in row:
                    self.assertEqual(fraction_text(number), f"{number[0]}/{number[1]}")

    def test_lengths_around_each_part(self):
        """Numbers of each number of figures, with noughts within and at the end."""
        for many in range(1, 200):
            for figures in ("1" + "0" * (many - 1), "9" * many, "7" + "0" * (many - 1), ("10203" * 40)[:many], "1" + "0" * many + "1"):
                number = int(figures)
                self.assertEqual(fraction_text((number, 1)), figures + "/1")
                self.assertEqual(fraction_text((-number, 1)), "-" + figures + "/1")
                self.assertEqual(fraction_text((1, number)), "1/" + figures)

    def test_far_beyond_what_python_writes(self):
        """What was told may be handed in again, whatever its size; Python writes but 4,300 figures at once."""
        self.assertTrue(fraction_text((10 ** 5000, 3)) == "1" + "0" * 5000 + "/3")
        self.assertTrue(fraction_text((-(10 ** 5000 - 1), 10 ** 4999)) == "-" + "9" * 5000 + "/1" + "0" * 4999)
        self.assertTrue(fraction_text((1, 10 ** 9000)) == "1/1" + "0" * 9000)

    def test_no_number(self):
        for one in NO_AMOUNTS:
            if one not in ((-1, 1), (-1, 2), (-GREAT, 1)) or type(one) is not tuple:
                with self.subTest(one=one):
                    self.refuses(NoNumber, fraction_text, one)
        self.refuses(NoNumber, fraction_text, (2 * 10 ** 5000, 2))
        self.refuses(NoNumber, fraction_text, "1/2")


class Asking(Cases):
    def test_by_places_and_by_names(self):
        self.asked_by(sale_text, "sale")
        self.asked_by(sale_read, "text")
        self.asked_by(fraction_text, "one")
        self.assertEqual(sale_text(sale=GOOD), "3 4 10 40/3/1 25/3/2")
        self.assertEqual(sale_read(text="3 4 10 40/3/1 25/3/2"), GOOD)
        self.assertEqual(fraction_text(one=(-1, 2)), "-1/2")
        self.refuses(NoText, sale_read, text=None)
        self.refuses(NoSale, sale_text, sale=None)
        self.refuses(NoNumber, fraction_text, one=None)

    def test_the_same_again_and_nothing_changed(self):
        for thing in OTHER_KINDS + SALES + NO_SALES + tuple(text for text, sale in WRITTEN):
            self.leaves_as_it_was(sale_text, thing)
            self.leaves_as_it_was(sale_read, thing)
            self.leaves_as_it_was(fraction_text, thing)


if __name__ == "__main__":
    unittest.main()
