"""The words of a text, taken one behind another."""

GAPS = (32, 9, 10, 13)
MINUS = 45
DIGIT_ZERO = 48
DIGIT_NINE = 57


class WrongWord(ValueError):

    def __init__(self, number):
        ValueError.__init__(self, f"word {number} is not as told")
        self.number = number


class Reader:

    def __init__(self, text):
        self.words = split_words(text)
        # As words are numbered from 1 on, this is also the number of the word that was taken last.
        self.taken = 0

    def is_at_end(self):
        return self.taken == len(self.words)

    def coming(self):
        if self.is_at_end():
            # No word is empty, so a text that breaks off is wrong one word behind its last.
            return []
        return self.words[self.taken]

    def take_one_of(self, choices):
        word = self.coming()
        self.taken = self.taken + 1
        for choice in choices:
            if word == [ord(sign) for sign in choice]:
                return choice
        raise WrongWord(self.taken)

    def take_number(self, least, most):
        number = number_up_to(self.coming(), most)
        self.taken = self.taken + 1
        if number is None or number < least:
            raise WrongWord(self.taken)
        return number

    def take_literal(self, most):
        literal = literal_up_to(self.coming(), most)
        self.taken = self.taken + 1
        if literal is None:
            raise WrongWord(self.taken)
        return literal

    def take_end(self):
        if not self.is_at_end():
            raise WrongWord(self.taken + 1)


def split_words(text):
    words = []
    word = []
    for byte in text:
        if byte not in GAPS:
            # Bytes that no word may have stay in theirs: that word is wrong then.
            word.append(byte)
        elif word:
            words.append(word)
            word = []
    if word:
        words.append(word)
    return words


def number_up_to(word, most):
    if not word or (word[0] == DIGIT_ZERO and len(word) > 1):
        return None
    number = 0
    for byte in word:
        if byte < DIGIT_ZERO or byte > DIGIT_NINE:
            return None
        number = 10 * number + byte - DIGIT_ZERO
        # Asked at each digit, so that a word of many thousand digits never becomes a number as long.
        if number > most:
            return None
    return number


def literal_up_to(word, most):
    # 0 is given back too, as it stands where a literal may: it ends the clause.
    if word[:1] != [MINUS]:
        return number_up_to(word, most)
    variable = number_up_to(word[1:], most)
    if variable is None or variable == 0:
        return None
    return -variable
