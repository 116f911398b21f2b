"""Whether a formula is true, found for all values at once.

Values of variables in order are told by one number, their place: the first
variable's value is its lowest bit. The early variables' place picks a bit of
a row, the late variables' place picks the row. A bit is 1 where the formula
fails.
"""

from someall.formula import SOME

# With 20 variables there are then 1024 rows of 1024 bits: no number gets long.
EARLY = 10


def is_true(formula):
    rows = failing_rows(formula)
    for kind in reversed(formula.kinds[EARLY:]):
        half = len(rows) // 2
        rows = [failing_either_way(kind, low, high) for low, high in zip(rows[:half], rows[half:])]
    row = rows[0]
    early_kinds = formula.kinds[:EARLY]
    width = 1 << len(early_kinds)
    for kind in reversed(early_kinds):
        width = width // 2
        row = failing_either_way(kind, row & ((1 << width) - 1), row >> width)
    return row == 0


def failing_either_way(kind, with_zero, with_one):
    if kind == SOME:
        return with_zero & with_one
    return with_zero | with_one


def failing_rows(formula):
    late = formula.variables[EARLY:]
    rows = [0] * (1 << len(late))
    for late_values, row in failing_by_late(formula).items():
        for place in failing_places(late_values):
            rows[place] = rows[place] | row
    return rows


def failing_by_late(formula):
    # Clauses with the same late literals share one walk over the rows: it's the costly part.
    early = formula.variables[:EARLY]
    late = formula.variables[EARLY:]
    by_late = {}
    for clause in formula.clauses:
        late_values = holding_values(clause, late)
        row = failing_row(holding_values(clause, early))
        by_late[late_values] = by_late.get(late_values, 0) | row
    return by_late


def holding_values(clause, variables):
    return tuple([clause.get(variable) for variable in variables])


def failing_row(holding):
    row = 1
    width = 1
    for value in holding:
        if value is None:
            row = row | (row << width)
        elif value == 0:
            row = row << width
        width = 2 * width
    return row


def failing_places(holding):
    places = [0]
    width = 1
    for value in holding:
        with_one = [place + width for place in places]
        if value is None:
            places = places + with_one
        elif value == 0:
            places = with_one
        width = 2 * width
    return places
