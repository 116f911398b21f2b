"""What the tests share: calls written as texts, and their answers as plain numbers."""

from someall.book import answers

BEGIN = [0]
TRUE = [2]


def read(text):
    """The call qb_read of a text, given as a str (one sign a byte) or as a list of bytes."""
    row = [ord(sign) for sign in text] if isinstance(text, str) else list(text)
    return [1, len(row)] + row


def ask(*calls):
    """What the calls answer, for those that answer one number each."""
    given = answers([number for call in calls for number in call])
    if given[0::2] != [1] * len(calls):
        raise AssertionError(f"not one number for each of {len(calls)} calls: {given}")
    return given[1::2]


def read_answer(text):
    return ask(BEGIN, read(text))[1]


def read_answers(texts, at_once=200):
    """The answers for many texts, each read in a book of others."""
    found = []
    for start in range(0, len(texts), at_once):
        found.extend(ask(BEGIN, *[read(text) for text in texts[start:start + at_once]])[1:])
    return found


def truth(text):
    """1 or 0; the text has to be as told."""
    begun, taken, true = ask(BEGIN, read(text), TRUE)
    if taken != 0:
        raise AssertionError(f"wrong at word {taken}: {text}")
    return true
