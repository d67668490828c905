"""Texts: sales written as words, `SEATS PERIODS CASES` and a `FARE/SHARE/SIZE` for each class, and fractions."""

from seatworth.errors import NoNumber, NoText
from seatworth.fractions import is_fraction
from seatworth.sales import MOST_CASES, MOST_CLASSES, MOST_FARE, MOST_PERIODS, MOST_SEATS, MOST_SIZE, need_sale
from seatworth.whole import is_between

MOST_FIGURES = 30


def sale_text(sale):
    """Tell the text of a sale."""
    need_sale(sale)
    seats, periods, cases, classes = sale
    words = [f"{fare}/{share}/{size}" for fare, share, size in classes]
    return " ".join([f"{seats} {periods} {cases}"] + words)


def sale_read(text):
    """Tell the sale that a text writes."""
    if not isinstance(text, str):
        raise NoText(-1)
    words = text.split(" ")
    # A word that lacks is then none just where it would stand.
    while len(words) < 4:
        words.append("")
    seats, periods, cases = head_read(words[:3])
    return (seats, periods, cases, classes_read(words[3:], cases))


def head_read(words):
    """Tell the numbers that the words ahead of all classes write."""
    bounds = ((0, MOST_SEATS), (0, MOST_PERIODS), (1, MOST_CASES))
    numbers = [bounded_read(word, least, most) for word, (least, most) in zip(words, bounds)]
    if None in numbers:
        raise NoText(numbers.index(None))
    return numbers


def classes_read(words, cases):
    """Tell the classes that the words behind the first three ones write, of a sale with so many cases."""
    classes = []
    free = cases
    for at, word in enumerate(words):
        kind = class_read(word, free)
        if kind is None or at >= MOST_CLASSES:
            raise NoText(3 + at)
        classes.append(kind)
        free -= kind[1]
    return tuple(classes)


def class_read(word, free):
    """Tell the class that a word writes, None where it writes none whose share is no more than so many free cases."""
    parts = word.split("/")
    if len(parts) != 3:
        return None
    numbers = [bounded_read(part, 1, most) for part, most in zip(parts, (MOST_FARE, free, MOST_SIZE))]
    return None if None in numbers else tuple(numbers)


def bounded_read(word, least, most):
    """Tell the number from the least to the most one that a word writes, None where it writes none."""
    number = number_read(word)
    return number if is_between(number, least, most) else None


def number_read(word):
    """Tell the whole number that a word writes in figures, None where it writes none."""
    if not word.isascii() or not word.isdigit() or len(word) > MOST_FIGURES:
        return None
    if word.startswith("0") and word != "0":
        return None
    return int(word)


def fraction_text(one):
    """Tell the text of a fraction."""
    if not is_fraction(one):
        raise NoNumber("this is no fraction")
    return f"{figures(one[0])}/{figures(one[1])}"


def figures(number):
    """Tell a whole number written in figures, however many there are."""
    # Python itself refuses to write some thousands of figures at once, so they are written sixty by sixty.
    parts = []
    rest = abs(number)
    while rest >= 10 ** 60:
        rest, part = divmod(rest, 10 ** 60)
        parts.append(str(part).zfill(60))
    parts.append(str(rest))
    return ("-" if number < 0 else "") + "".join(reversed(parts))
