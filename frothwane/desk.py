"""The desk: a log that is spoken to by texts and answers by texts."""

from frothwane.amounts import shown_amount
from frothwane.errors import (
    BadBegin, BadGas, BadTime, Full, Looped, NoBack, NoBubble, NoEnd, NoFilm, NoForth, NoOrder, NotOne, OneBubble,
    SameFilm,
)
from frothwane.log import begun
from frothwane.words import is_number, read, shown_row


def back_texts(log):
    """The answer to `back`."""
    return [f"stand {log.back()}"]


def forth_texts(log):
    """The answer to `forth`."""
    return [f"stand {log.forth()}"]


def log_texts(log):
    """The answer to `log`."""
    return log.told()


def book_texts(log):
    """The answer to `book`."""
    return [shown_row(row) for row in log.froth().book()]


def hour_texts(log):
    """The answer to `hour`."""
    return [shown_amount(log.froth().hour())]


def gas_and_sides(gas, sides):
    """The end of a text that tells of a bubble."""
    return f"gas {shown_amount(gas)} sides {sides}"


def bubble_texts(log):
    """The answer to `bubbles`."""
    froth = log.froth()
    return [f"{name} {gas_and_sides(froth.gas(name), froth.sides(name))}" for name in froth.bubbles()]


def next_texts(log):
    """The answer to `next`."""
    first = log.froth().next_to_go()
    if first is None:
        return ["none"]
    hours, name = first
    return [f"{name} in {shown_amount(hours)}"]


def ledger_texts(log, name):
    """The answer to `ledger` and a name."""
    rows = log.froth().ledger(name)
    return [f"{shown_amount(hour)} {gas_and_sides(gas, sides)}" for hour, gas, sides in rows]


LEDGER = "ledger "
QUESTIONS = {
    "back": back_texts,
    "forth": forth_texts,
    "log": log_texts,
    "book": book_texts,
    "hour": hour_texts,
    "bubbles": bubble_texts,
    "next": next_texts,
}


def is_question(text):
    """Whether a text is one of the questions."""
    if text in QUESTIONS:
        return True
    return text.startswith(LEDGER) and is_number(text.removeprefix(LEDGER))


def answered(log, question):
    """The answer of a log to a question."""
    if question in QUESTIONS:
        answer = QUESTIONS[question]
        return answer(log)
    return ledger_texts(log, int(question.removeprefix(LEDGER)))


class Desk:
    """A desk, which has no log until one begins."""

    def __init__(self):
        self.kept = None

    def say(self, text):
        """Answer a text: an order or a question."""
        try:
            return self.heard(text)
        except BadBegin:
            return ["no: begin"]
        except NoFilm:
            return ["no: film"]
        except NoEnd:
            return ["no: end"]
        except Looped:
            return ["no: looped"]
        except OneBubble:
            return ["no: one bubble"]
        except NotOne:
            return ["no: not one"]
        except SameFilm:
            return ["no: same film"]
        except BadGas:
            return ["no: gas"]
        except Full:
            return ["no: full"]
        except BadTime:
            return ["no: time"]
        except NoBubble:
            return ["no: bubble"]
        except NoBack:
            return ["no: back"]
        except NoForth:
            return ["no: forth"]
        except NoOrder:
            return ["no: order"]

    def heard(self, text):
        """Answer a text that is not refused."""
        if is_question(text):
            return ["no: log"] if self.kept is None else answered(self.kept, text)
        order = read(text)
        if order[0] == "begin":
            self.kept = begun(order)
            return []
        if self.kept is None:
            return ["no: log"]
        return [shown_row(row) for row in self.kept.deed(order)]
