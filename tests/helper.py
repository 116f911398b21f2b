"""What the tests share: calls written as texts, their answers as plain numbers, and formulas to ask about."""

from someall.book import answers

BEGIN = [0]
TRUE = [2]
WAYS = [3]


def with_row(call, given):
    """A call with a row, given as a str (one sign a byte) or as a list of numbers."""
    row = [ord(sign) for sign in given] if isinstance(given, str) else list(given)
    return [call, len(row)] + row


def read(text):
    return with_row(1, text)


def play(values):
    return with_row(4, values)


def proof(text):
    return with_row(5, text)


def ask_all(*calls):
    """For each call, the list of what it answers."""
    given = answers([number for call in calls for number in call])
    found = []
    at = 0
    while at < len(given):
        found.append(given[at + 1:at + 1 + given[at]])
        if len(found[-1]) != given[at]:
            raise AssertionError(f"fewer numbers than told: {given}")
        at = at + 1 + given[at]
    if len(found) != len(calls):
        raise AssertionError(f"{len(found)} answers for {len(calls)} calls: {given}")
    return found


def ask(*calls):
    """What the calls answer, for those that answer one number each."""
    found = ask_all(*calls)
    if any(len(answer) != 1 for answer in found):
        raise AssertionError(f"not one number for each call: {found}")
    return [answer[0] for answer in found]


def ask_about(text, *calls):
    """For each call, the list of what it answers about the text's formula; the text has to be as told."""
    begun, taken, *found = ask_all(BEGIN, read(text), *calls)
    if taken != [0]:
        raise AssertionError(f"wrong at word {taken[0]}: {text}")
    return found


def numbers_about(text, calls, at_once=100):
    """The one number that each of many calls answers about the text's formula, in books that aren't too long."""
    found = []
    for start in range(0, len(calls), at_once):
        found.extend(ask_about(text, *calls[start:start + at_once]))
    if any(len(answer) != 1 for answer in found):
        raise AssertionError(f"not one number for each call: {found}")
    return [answer[0] for answer in found]


def read_answer(text):
    return ask(BEGIN, read(text))[1]


def read_answers(texts, at_once=200):
    """The answers for many texts, each read in a book of others."""
    found = []
    for start in range(0, len(texts), at_once):
        found.extend(ask(BEGIN, *[read(text) for text in texts[start:start + at_once]])[1:])
    return found


def truth(text):
    return ask_about(text, TRUE)[0][0]


def numbers(first, last):
    return " ".join(str(number) for number in range(first, last + 1))


def text_of(blocks, clauses):
    words = ["p", "cnf", sum(len(block) for kind, block in blocks), len(clauses)]
    for kind, block in blocks:
        words.extend([kind, *block, 0])
    for clause in clauses:
        words.extend([*clause, 0])
    return " ".join(str(word) for word in words)


def order_of(blocks):
    return [(kind, variable) for kind, block in blocks for variable in block]


def true_of(values, order, clauses):
    """What the document says, word by word: values are those of the first variables in order."""
    if len(values) == len(order):
        value_of = {variable: value for (kind, variable), value in zip(order, values)}
        return all(any(value_of[abs(literal)] == (literal > 0) for literal in clause) for clause in clauses)
    further = [true_of(values + [value], order, clauses) for value in (0, 1)]
    return any(further) if order[len(values)][0] == "e" else all(further)


def clauses_of_two():
    """Each clause of the variables 1 and 2."""
    return [list(one + two) for one in [(), (1,), (-1,)] for two in [(), (2,), (-2,)]]


BLOCKS_OF_TWO = [[("e", [1, 2])], [("a", [2, 1])], [("e", [1]), ("a", [2])], [("a", [1]), ("e", [2])],
                 [("e", [2]), ("a", [1])], [("a", [2]), ("e", [1])]]


def some_blocks(dice, most):
    variables = list(range(1, most + 1))
    dice.shuffle(variables)
    blocks = []
    while variables:
        size = dice.randint(1, min(3, len(variables)))
        blocks.append((dice.choice("ea"), variables[:size]))
        variables = variables[size:]
    return blocks


def some_clauses(dice, most, how_many, longest):
    clauses = []
    for k in range(how_many):
        variables = dice.sample(range(1, most + 1), dice.randint(1, min(longest, most)))
        clauses.append([dice.choice((1, -1)) * variable for variable in variables])
    return clauses
