"""The book that the calls of one list are about, and what they answer."""

from someall.formula import SOME, read_formula
from someall.proof import check_proof
from someall.truth import Outcomes
from someall.words import WrongWord

QB_BEGIN = 0
QB_READ = 1
QB_TRUE = 2
QB_WAYS = 3
QB_PLAY = 4
QB_PROOF = 5

NOTHING_HELD = -3
WRONG_VALUES = -2


class UnknownCall(ValueError):

    def __init__(self, call):
        ValueError.__init__(self, f"there is no call {call}")


class Book:

    def __init__(self):
        self.formula = None
        # Kept once they are found: the same formula may be asked about hundreds of times.
        self.outcomes = None

    def read_text(self, text):
        try:
            formula = read_formula(text)
        except WrongWord as wrong:
            return wrong.number
        self.formula = formula
        self.outcomes = None
        return 0

    def find_outcomes(self):
        if self.outcomes is None:
            self.outcomes = Outcomes(self.formula)
        return self.outcomes

    def tell_truth(self):
        return 1 if self.find_outcomes().is_true_of([]) else 0

    def count_ways(self):
        return self.find_outcomes().count_true(self.formula.first_block)

    def play_next(self, values):
        if len(values) >= len(self.formula.variables):
            return WRONG_VALUES
        if not all([value in (0, 1) for value in values]):
            return WRONG_VALUES
        wanted = self.formula.kinds[len(values)] == SOME
        for value in (0, 1):
            if self.find_outcomes().is_true_of(values + [value]) == wanted:
                return value + 2
        return 0

    def follow_proof(self, text):
        try:
            check_proof(self.formula, text)
        except WrongWord as wrong:
            return wrong.number
        return 0


def answers(calls):
    given = []
    book = Book()
    at = 0
    while at < len(calls):
        call = calls[at]
        at = at + 1
        row = []
        if call in (QB_READ, QB_PLAY, QB_PROOF):
            row = row_at(calls, at)
            at = at + 1 + len(row)
        if call == QB_BEGIN:
            book = Book()
        answer = answer_of(book, call, row)
        given.append(len(answer))
        given.extend(answer)
    return given


def row_at(calls, at):
    begin = at + 1
    return calls[begin:begin + calls[at]]


def answer_of(book, call, row):
    if call == QB_BEGIN:
        return [0]
    if call == QB_READ:
        return [book.read_text(row)]
    if call not in (QB_TRUE, QB_WAYS, QB_PLAY, QB_PROOF):
        raise UnknownCall(call)
    if book.formula is None:
        return [NOTHING_HELD]
    if call == QB_TRUE:
        return [book.tell_truth()]
    if call == QB_WAYS:
        return [0, book.count_ways()]
    if call == QB_PLAY:
        return [book.play_next(row)]
    return [book.follow_proof(row)]
