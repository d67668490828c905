"""Tests of desks: point [81], and [2] to [5] as far as they bear on them."""

import random
import unittest

from plainly import PlainDesk
from seatworth.desk import Desk
from seatworth.errors import NoClass, NoLine, NoText, NoTime, Nothing, Over
from seatworth.texts import sale_text
from test_texts import NO_TEXTS, WRITTEN, WRONG
from things import GOOD, GREATEST_SALE, OTHER_KINDS, SALES, Cases, drawn_sales

SINGLE = "sale 2 2 2 10/1/1 90/1/1"
QUESTIONS = ("left", "time", "earned", "came", "worth")
NO_LINES = (
    "", " ", "  ", "\n", "\t", "sale", "ask", "open", "ask ", "open ", "none ", " none", "undo ", " undo", "left ", " left", "time ",
    "earned ", "came ", "worth ", "none 0", "undo 1", "left 0", "time 0", "earned 0", "came 0", "worth 0", "ask 0 0", "open 0 0", "ask  0",
    "open  0", " ask 0", "ask 0 ", "open 0 ", " open 0", "ask 00", "ask 01", "open 01", "open 00", "ask -0", "ask -1", "open -1", "ask +1",
    "ask 1.0", "ask 1_0", "ask x", "open x", "ask -", "ask None", "ask True", "ask 1/1", "ask\t0", "ask\n0", "ask 0\n", "open\t0", "open 0\t",
    "\nask 0", "none\n", "left\n", "ask 0,1", "Ask 0", "ASK 0", "Sale 0 0 1 1/1/1", "SALE 0 0 1 1/1/1", "None", "NONE", "Left", " sale 0 0 1 1/1/1",
    "sale\t0 0 1 1/1/1", "sale\n", "sales 0 0 1 1/1/1", "sal 0 0 1 1/1/1", "0 0 1 1/1/1", "asks 0", "as 0", "opened 0", "ope 0", "0", "1",
    "ask 0none", "none none", "left time", "undo undo", "lefttime", "x", "ask " + "1" * 31, "open " + "1" * 31, "ask 1" + "0" * 30,
    "open " + "9" * 31, "ask " + "0" * 30, "ask " + "9" * 990, "ask " + "9" * 5000, "nothing", "ok", "sold", "kept", "x" * 1000, "-", "/", "quit",
    "opened", "say_left", "worth_now", "twin", "came came",
)


class DeskCases(Cases):
    def says(self, desk, *pairs):
        """Each line with its answer, one behind the other."""
        for line, answer in pairs:
            with self.subTest(line=line):
                told = desk.say(line)
                self.assertEqual(told, answer)
                self.assertIs(type(told), str)

    def at(self, *lines):
        """A desk that was told these lines."""
        desk = Desk()
        for line in lines:
            desk.say(line)
        return desk

    def shown(self, desk):
        """All that a desk tells when it is asked."""
        return [desk.say(line) for line in QUESTIONS]

    def refused_at(self, desk, line, at):
        with self.assertRaises(ValueError) as kept:
            desk.say(line)
        self.assertIs(type(kept.exception), NoText)
        self.same_number(kept.exception.at, at)


class AheadOfAnySale(DeskCases):
    def test_each_line(self):
        desk = Desk()
        self.says(desk, ("left", "0"), ("time", "0"), ("earned", "0"), ("came", "nothing"), ("worth", "0/1"))
        self.refuses(Over, desk.say, "ask 0")
        self.refuses(NoClass, desk.say, "ask 1")
        self.refuses(Over, desk.say, "none")
        self.refuses(Nothing, desk.say, "undo")
        self.refuses(NoTime, desk.say, "open 0")
        self.refuses(NoClass, desk.say, "open 1")
        self.says(desk, ("left", "0"), ("time", "0"), ("earned", "0"), ("came", "nothing"), ("worth", "0/1"))

    def test_it_is_of_that_sale(self):
        other = self.at("sale 0 0 1 1/1/1")
        self.assertEqual(self.shown(other), self.shown(Desk()))


class BehindASale(DeskCases):
    def test_asks_that_are_sold(self):
        self.says(
            Desk(), (SINGLE, "ok"), ("left", "2"), ("time", "2"), ("earned", "0"), ("came", "nothing"), ("worth", "100/1"), ("open 0", "2"),
            ("open 1", "1 2"), ("ask 0", "sold"), ("left", "1"), ("time", "1"), ("earned", "10"), ("came", "0"), ("worth", "60/1"),
            ("open 0", "1 2"), ("ask 1", "sold"), ("left", "0"), ("time", "0"), ("earned", "100"), ("came", "0 1"), ("worth", "100/1"),
        )

    def test_asks_that_are_kept(self):
        self.says(
            Desk(), ("sale 1 2 2 10/1/1 90/1/1", "ok"), ("open 0", "nothing"), ("ask 0", "kept"), ("left", "1"), ("time", "1"),
            ("earned", "0"), ("came", "0"), ("worth", "50/1"), ("ask 0", "sold"), ("came", "0 0"), ("worth", "10/1"),
        )

    def test_none_and_undo(self):
        desk = self.at("sale 1 3 4 10/1/1 30/1/1")
        self.says(
            desk, ("none", "ok"), ("came", "-"), ("none", "ok"), ("came", "- -"), ("undo", "ok"), ("came", "-"), ("ask 1", "sold"),
            ("came", "- 1"), ("none", "ok"), ("came", "- 1 -"), ("worth", "30/1"), ("undo", "ok"), ("undo", "ok"), ("undo", "ok"),
            ("came", "nothing"), ("time", "3"), ("worth", "75/4"),
        )
        self.refuses(Nothing, desk.say, "undo")

    def test_a_worth_that_is_not_whole(self):
        self.says(self.at("sale 2 2 4 10/1/1 30/1/2"), ("worth", "125/8"))
        self.says(self.at("sale 1 2 2 10/1/1"), ("worth", "15/2"), ("ask 0", "sold"), ("worth", "10/1"))

    def test_refusals(self):
        desk = self.at(SINGLE, "ask 0", "ask 1")
        shown = self.shown(desk)
        for line, due in (
            ("ask 0", Over), ("ask 1", Over), ("ask 2", NoClass), ("none", Over), ("open 0", NoTime), ("open 1", NoTime), ("open 2", NoClass),
            ("ask " + "9" * 30, NoClass), ("open " + "9" * 30, NoClass), ("ask 1" + "0" * 29, NoClass), ("ask 10", NoClass), ("open 10", NoClass),
        ):
            self.refuses(due, desk.say, line)
            self.assertEqual(self.shown(desk), shown)
        desk = self.at(SINGLE)
        for line, due in (("ask 2", NoClass), ("open 2", NoClass), ("undo", Nothing), ("ask " + "9" * 30, NoClass)):
            self.refuses(due, desk.say, line)
            self.assertEqual(self.shown(desk), ["2", "2", "0", "nothing", "100/1"])

    def test_open_changes_nothing(self):
        desk = self.at(SINGLE, "ask 0")
        for turn in range(3):
            self.says(desk, ("open 0", "1 2"), ("open 1", "1 2"), ("left", "1"), ("came", "0"))

    def test_open_at_many_numbers_left(self):
        self.says(self.at("sale 12 1 1 5/1/1"), ("open 0", "1 2 3 4 5 6 7 8 9 10 11 12"))
        self.says(self.at("sale 3 2 2 10/1/1 90/1/2"), ("open 0", "1 3"), ("open 1", "2 3"))
        self.says(self.at("sale 0 2 2 10/1/1"), ("open 0", "nothing"), ("ask 0", "kept"))


class NewSales(DeskCases):
    def test_a_new_counter_with_nothing_to_undo(self):
        desk = self.at(SINGLE, "ask 0")
        self.says(desk, ("sale 3 4 10 40/3/1 25/3/2", "ok"), ("left", "3"), ("time", "4"), ("earned", "0"), ("came", "nothing"))
        self.refuses(Nothing, desk.say, "undo")
        self.says(desk, (SINGLE, "ok"))
        self.assertEqual(self.shown(desk), ["2", "2", "0", "nothing", "100/1"])
        self.says(desk, ("ask 0", "sold"), (SINGLE, "ok"), ("came", "nothing"))
        self.refuses(Nothing, desk.say, "undo")

    def test_each_text_of_a_sale(self):
        for text, sale in WRITTEN:
            desk = Desk()
            self.says(desk, (f"sale {text}", "ok"), ("left", str(sale[0])), ("time", str(sale[1])))

    def test_a_sale_that_is_refused_leaves_the_old_counter(self):
        desk = self.at(SINGLE, "ask 0")
        for text, at in WRONG:
            with self.subTest(text=text[:80]):
                self.refused_at(desk, f"sale {text}", at)
                self.assertEqual(self.shown(desk), ["1", "1", "10", "0", "60/1"])
        self.says(desk, ("undo", "ok"), ("left", "2"))

    def test_the_empty_text_and_blanks(self):
        desk = Desk()
        self.refuses(NoLine, desk.say, "sale")
        self.refused_at(desk, "sale ", 0)
        self.refused_at(desk, "sale  ", 0)
        self.refused_at(desk, "sale  0 0 1 1/1/1", 0)
        self.refused_at(desk, "sale 0 0 1 1/1/1 ", 4)
        self.refused_at(desk, "sale sale 0 0 1 1/1/1", 0)
        self.refused_at(desk, "sale 3 4 10", 3)
        self.refused_at(desk, "sale 3 4 10 40/3/1\n", 3)


class NoLines(DeskCases):
    def test_lines_of_no_such_form(self):
        for desk in (Desk(), self.at(SINGLE), self.at(SINGLE, "ask 0"), self.at(SINGLE, "ask 0", "none")):
            shown = self.shown(desk)
            for line in NO_LINES:
                with self.subTest(line=line[:80]):
                    self.refuses(NoLine, desk.say, line)
            self.assertEqual(self.shown(desk), shown)

    def test_what_is_no_text(self):
        for desk in (Desk(), self.at(SINGLE, "ask 0"), self.at(SINGLE, "none", "none")):
            shown = self.shown(desk)
            for thing in NO_TEXTS + (["left"], ("left",), {"left": "left"}, ["ask", "0"], ("sale", "0 0 1 1/1/1"), 10 ** 5000):
                self.refuses(NoLine, desk.say, thing)
            self.assertEqual(self.shown(desk), shown)

    def test_ahead_of_all_else(self):
        """Where no period is to come and nothing came, a line of no such form is refused as such all the same."""
        for line in ("ask 00", "ask 07", "open 07", "ask -1", "open x", "none 1", "undo 1", "ask", "ask " + "7" * 31, "open " + "7" * 31):
            self.refuses(NoLine, Desk().say, line)


class Drawn(DeskCases):
    def line(self, draw, sale):
        """A line that is drawn: most have a form, some are wrong ones."""
        number = draw.choice((0, 0, 1, 1, 2, 3, 4))
        return draw.choice(
            ["none", "undo", "left", "time", "earned", "came", "worth", f"open {number}"] * 2 + [f"ask {number}"] * 8
            + [draw.choice(NO_LINES), f"sale {sale_text(draw.choice(SALES))}", f"sale {draw.choice(WRONG)[0]}", draw.choice(OTHER_KINDS)]
        )

    def both_answer(self, desk, plain, line):
        if type(line) is str and len(line) > 1000:
            return
        due = plain.say(line)
        if type(due) is tuple:
            with self.assertRaises(ValueError) as kept:
                desk.say(line)
            self.assertEqual((type(kept.exception).__name__, getattr(kept.exception, "at", None)), due)
        else:
            self.assertEqual(desk.say(line), due)

    def test_many_lines(self):
        draw = random.Random(130)
        for sale in SALES + drawn_sales(131, 25):
            desk, plain = Desk(), PlainDesk()
            self.both_answer(desk, plain, f"sale {sale_text(sale)}")
            for turn in range(60):
                self.both_answer(desk, plain, self.line(draw, sale))
                for line in QUESTIONS:
                    self.both_answer(desk, plain, line)

    def test_two_desks_by_turns(self):
        draw = random.Random(132)
        both = [(Desk(), PlainDesk()), (Desk(), PlainDesk())]
        for turn in range(300):
            self.both_answer(*draw.choice(both), self.line(draw, GOOD))
            for desk, plain in both:
                for line in QUESTIONS:
                    self.both_answer(desk, plain, line)


class Asking(DeskCases):
    def test_by_place_and_by_name(self):
        self.asked_by(Desk)
        self.asked_by(Desk().say, "line")
        self.assertIn("say", vars(Desk))
        self.assertEqual(Desk().say(line="left"), "0")
        self.refuses(NoLine, Desk().say, line=None)

    def test_two_desks_have_nothing_to_do_with_each_other(self):
        one, other = self.at(SINGLE, "ask 0"), self.at(SINGLE)
        self.says(one, ("none", "ok"), ("came", "0 -"))
        self.says(other, ("came", "nothing"), ("ask 1", "sold"), ("earned", "90"))
        self.says(one, ("earned", "10"), ("undo", "ok"), ("came", "0"))
        self.says(other, ("came", "1"))
        self.says(Desk(), ("came", "nothing"), ("left", "0"))

    def test_the_same_again(self):
        desk = self.at(SINGLE, "ask 0")
        for turn in range(3):
            self.assertEqual(self.shown(desk), ["1", "1", "10", "0", "60/1"])

    def test_what_was_handed_in_is_as_it_was(self):
        for thing in OTHER_KINDS + NO_LINES + QUESTIONS:
            self.leaves_as_it_was(lambda line: Desk().say(line), thing)

    def test_the_bounds_all_at_once(self):
        desk = self.at(f"sale {sale_text(GREATEST_SALE)}")
        for turn in range(12):
            self.says(desk, (f"ask {turn % 4}", "sold" if turn < 3 else "kept"))
        self.says(desk, ("earned", "297"), ("came", "0 1 2 3 0 1 2 3 0 1 2 3"), ("worth", "297/1"), ("time", "0"))


if __name__ == "__main__":
    unittest.main()
