"""Formulas, and what a text has to be to tell one."""

from someall.words import Reader, WrongWord

MOST_VARIABLES = 20
MOST_CLAUSES = 1024
SOME = "e"
ALL = "a"


class Formula:

    def __init__(self):
        # In order: the variables, and for each the kind of block in which it stands.
        self.variables = []
        self.kinds = []
        # How many variables the first block has: the kinds alone don't tell, as two of one kind may follow.
        self.first_block = 0
        # Each clause is a dict: for a variable, the value with which its literal holds.
        self.clauses = []

    def kind_of(self, variable):
        return self.kinds[self.variables.index(variable)]


def read_formula(text):
    reader = Reader(text)
    reader.take_one_of(("p",))
    reader.take_one_of(("cnf",))
    most = reader.take_number(1, MOST_VARIABLES)
    how_many = reader.take_number(0, MOST_CLAUSES)
    formula = Formula()
    take_block(reader, most, formula)
    formula.first_block = len(formula.variables)
    while len(formula.variables) < most:
        take_block(reader, most, formula)
    while len(formula.clauses) < how_many:
        formula.clauses.append(take_clause(reader, most))
    reader.take_end()
    return formula


def take_block(reader, most, formula):
    kind = reader.take_one_of((SOME, ALL))
    # A block has at least one variable: its end may not come first.
    variable = reader.take_number(1, most)
    while variable != 0:
        if variable in formula.variables:
            raise WrongWord(reader.taken)
        formula.variables.append(variable)
        formula.kinds.append(kind)
        variable = reader.take_number(0, most)


def take_clause(reader, most):
    clause = {}
    literal = reader.take_literal(most)
    while literal != 0:
        variable = abs(literal)
        if variable in clause:
            raise WrongWord(reader.taken)
        clause[variable] = 1 if literal > 0 else 0
        literal = reader.take_literal(most)
    return clause
