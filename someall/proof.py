"""Proofs that a formula isn't true: steps, each of which makes a clause of earlier ones."""

from someall.formula import SOME
from someall.words import Reader, WrongWord

MOST_STEPS = 65536
TWO_CLAUSES = "r"
ONE_CLAUSE = "u"


def check_proof(formula, text):
    reader = Reader(text)
    # A copy: the steps' clauses are the proof's alone.
    clauses = list(formula.clauses)
    steps = 0
    while not reader.is_at_end():
        if steps == MOST_STEPS:
            raise WrongWord(reader.taken + 1)
        clauses.append(take_step(reader, formula, clauses))
        steps = steps + 1
    # An empty clause of the text's own, with no step behind it, proves nothing.
    if steps == 0 or clauses[-1]:
        raise WrongWord(reader.taken + 1)


def take_step(reader, formula, clauses):
    if reader.take_one_of((TWO_CLAUSES, ONE_CLAUSE)) == ONE_CLAUSE:
        return without_last_alls(formula, take_named(reader, clauses))
    one = take_named(reader, clauses)
    other = take_named(reader, clauses)
    variable = reader.take_number(1, len(formula.variables))
    if formula.kind_of(variable) != SOME or not differ_in(variable, one, other):
        raise WrongWord(reader.taken)
    return put_together(variable, one, other)


def take_named(reader, clauses):
    return clauses[reader.take_number(1, len(clauses)) - 1]


def differ_in(variable, one, other):
    # If it's the only one with different signs, the other has it with `-` where the one has it without.
    unlike = [shared for shared in one if shared in other and one[shared] != other[shared]]
    return unlike == [variable] and one[variable] == 1


def put_together(variable, one, other):
    both = dict(one)
    both.update(other)
    both.pop(variable)
    return both


def without_last_alls(formula, clause):
    kept = {}
    for variable in reversed(formula.variables):
        # Walked from the last on: once one is kept, a variable of `e` stands behind all that are to come.
        if variable in clause and (kept or formula.kind_of(variable) == SOME):
            kept[variable] = clause[variable]
    return kept
