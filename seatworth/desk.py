"""A desk that keeps a counter, and answers lines."""

from seatworth.counter import Counter
from seatworth.errors import NoLine
from seatworth.marks import opened
from seatworth.texts import fraction_text, number_read, sale_read

FIRST_SALE = (0, 0, 1, ((1, 1, 1),))


def say_none(counter):
    """Answer the line `none`."""
    counter.none()
    return "ok"


def say_undo(counter):
    """Answer the line `undo`."""
    counter.undo()
    return "ok"


def say_left(counter):
    """Answer the line `left`."""
    return str(counter.left())


def say_time(counter):
    """Answer the line `time`."""
    return str(counter.time())


def say_earned(counter):
    """Answer the line `earned`."""
    return str(counter.earned())


def say_came(counter):
    """Answer the line `came`."""
    return listed(["-" if number is None else str(number) for number in counter.came()])


def say_worth(counter):
    """Answer the line `worth`."""
    return fraction_text(counter.worth_now())


def say_ask(counter, number):
    """Answer the line `ask N`."""
    return "sold" if counter.ask(number) else "kept"


def say_opened(counter, number):
    """Answer the line `open N`."""
    return listed([str(left) for left in opened(counter.sale, number, counter.time())])


def listed(words):
    """Tell words with blanks between, and where there are none that there is nothing to tell."""
    return " ".join(words) if words else "nothing"


ALONE = {
    "none": say_none, "undo": say_undo, "left": say_left, "time": say_time, "earned": say_earned, "came": say_came,
    "worth": say_worth,
}
WITH_NUMBER = {"ask": say_ask, "open": say_opened}


class Desk:
    """A desk; at first its counter is of a sale with nothing to sell."""

    def __init__(self):
        self.counter = Counter(FIRST_SALE)

    def say(self, line):
        """Tell the answer to a line."""
        if not isinstance(line, str):
            raise NoLine("this is no text")
        word, blank, rest = line.partition(" ")
        if word == "sale" and blank:
            self.counter = Counter(sale_read(rest))
            return "ok"
        if line in ALONE:
            action = ALONE[line]
            return action(self.counter)
        number = number_read(rest)
        if word not in WITH_NUMBER or number is None:
            raise NoLine("no line has this form")
        answer = WITH_NUMBER[word]
        return answer(self.counter, number)
