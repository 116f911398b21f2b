"""The book that the calls of one list are about, and what they answer."""

from someall.formula import read_formula
from someall.truth import is_true
from someall.words import WrongWord

QB_BEGIN = 0
QB_READ = 1
QB_TRUE = 2

NOTHING_HELD = -3


class UnknownCall(ValueError):

    def __init__(self, call):
        ValueError.__init__(self, f"there is no call {call}")


class Book:

    def __init__(self):
        self.formula = None
        # Kept once it is found: the same formula may be asked about hundreds of times.
        self.truth = None

    def read_text(self, text):
        try:
            formula = read_formula(text)
        except WrongWord as wrong:
            return wrong.number
        self.formula = formula
        self.truth = None
        return 0

    def tell_truth(self):
        if self.formula is None:
            return NOTHING_HELD
        if self.truth is None:
            self.truth = 1 if is_true(self.formula) else 0
        return self.truth


def answers(calls):
    given = []
    book = Book()
    at = 0
    while at < len(calls):
        call = calls[at]
        at = at + 1
        if call == QB_BEGIN:
            book = Book()
            given.extend([1, 0])
        elif call == QB_READ:
            text = row_at(calls, at)
            at = at + 1 + len(text)
            given.extend([1, book.read_text(text)])
        elif call == QB_TRUE:
            given.extend([1, book.tell_truth()])
        else:
            raise UnknownCall(call)
    return given


def row_at(calls, at):
    begin = at + 1
    return calls[begin:begin + calls[at]]
