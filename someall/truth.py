"""Of which values a formula is true, found for all values at once.

Values of the first variables in order are told by one number, their place:
the first variable's value is its lowest bit. The early variables' place picks
a bit of a row, the late variables' place picks the row. A bit is 1 where the
formula isn't true.
"""

from someall.formula import SOME

# With 20 variables there are then 1024 rows of 1024 bits: no number gets long.
EARLY = 10
ROW_BITS = 1024


class Outcomes:

    def __init__(self, formula):
        # For each m from 0 to V, the rows about values of the first m variables.
        self.levels = failing_levels(formula)

    def is_true_of(self, values):
        place = place_of(values)
        row = self.levels[len(values)][place // ROW_BITS]
        return (row >> (place % ROW_BITS)) & 1 == 0

    def count_true(self, how_many):
        masks = field_masks()
        failing = sum([count_ones(row, masks) for row in self.levels[how_many]])
        return (1 << how_many) - failing


def place_of(values):
    place = 0
    for value in reversed(values):
        place = 2 * place + value
    return place


def failing_levels(formula):
    rows = failing_rows(formula)
    levels = [rows]
    width = min(1 << len(formula.kinds), ROW_BITS)
    for kind in reversed(formula.kinds):
        if len(rows) > 1:
            half = len(rows) // 2
            rows = [failing_either_way(kind, low, high) for low, high in zip(rows[:half], rows[half:])]
        else:
            width = width // 2
            rows = [failing_either_way(kind, rows[0] & ((1 << width) - 1), rows[0] >> width)]
        levels.append(rows)
    return list(reversed(levels))


def field_masks():
    """For each width of a field, 1 to half a row: a row's fields that have an even place."""
    masks = []
    width = 1
    while width < ROW_BITS:
        masks.append((width, ((1 << ROW_BITS) - 1) // ((1 << width) + 1)))
        width = 2 * width
    return masks


def count_ones(row, masks):
    # Each field holds how many ones it had: two by two they are summed into one that is twice as wide.
    for width, mask in masks:
        row = (row & mask) + ((row >> width) & mask)
    return row


def failing_either_way(kind, with_zero, with_one):
    if kind == SOME:
        return with_zero & with_one
    return with_zero | with_one


def failing_rows(formula):
    late = formula.variables[EARLY:]
    rows = [0] * (1 << len(late))
    for late_values, row in failing_by_late(formula).items():
        for place in failing_places(late_values):
            rows[place] = rows[place] | row
    return rows


def failing_by_late(formula):
    # Clauses with the same late literals share one walk over the rows: it's the costly part.
    early = formula.variables[:EARLY]
    late = formula.variables[EARLY:]
    by_late = {}
    for clause in formula.clauses:
        late_values = holding_values(clause, late)
        row = failing_row(holding_values(clause, early))
        by_late[late_values] = by_late.get(late_values, 0) | row
    return by_late


def holding_values(clause, variables):
    return tuple([clause.get(variable) for variable in variables])


def failing_row(holding):
    row = 1
    width = 1
    for value in holding:
        if value is None:
            row = row | (row << width)
        elif value == 0:
            row = row << width
        width = 2 * width
    return row


def failing_places(holding):
    places = [0]
    width = 1
    for value in holding:
        with_one = [place + width for place in places]
        if value is None:
            places = places + with_one
        elif value == 0:
            places = with_one
        width = 2 * width
    return places
