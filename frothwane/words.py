"""Orders and rows of the day-book as texts."""

from frothwane.amounts import shown_amount
from frothwane.errors import NoOrder

FIGURES = "0123456789"
MOST_FIGURES = 12
NUMBERS_OF = {"push": 1, "pull": 1, "burst": 1, "part": 4, "blow": 3, "wait": 2}
# Rows, columns and one gas.
LEAST_OF_BEGIN = 3


def shown(order):
    """The text of an order or a begin."""
    return " ".join([str(part) for part in order])


def is_number(text):
    """Whether a text is a number as orders write it."""
    figures = text.removeprefix("-")
    if not 1 <= len(figures) <= MOST_FIGURES:
        return False
    if not all([sign in FIGURES for sign in figures]):
        return False
    # Nought is written without a sign, and no other number with a nought ahead.
    return figures[0] != "0" or text == "0"


def takes_numbers(word, many):
    """Whether a word is that of an order or a begin that has so many numbers."""
    if word == "begin":
        return many >= LEAST_OF_BEGIN
    return word in NUMBERS_OF and NUMBERS_OF[word] == many


def read(text):
    """The order or the begin that a text tells."""
    parts = text.split(" ")
    word = parts[0]
    numbers = parts[1:]
    if not takes_numbers(word, len(numbers)) or not all([is_number(part) for part in numbers]):
        raise NoOrder("no order is written so")
    return tuple([word] + [int(part) for part in numbers])


def shown_row(row):
    """The text of a row of the day-book."""
    return " ".join([shown_amount(row[0])] + [str(part) for part in row[1:]])
