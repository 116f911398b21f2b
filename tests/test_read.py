"""Point 2: which texts are as told, and at which word the others are not."""

import itertools
import unittest

from helper import numbers, read_answer, read_answers

GAPS = " \t\n\r"
EVERY_BYTE = [chr(byte) for byte in range(256)]
LONG = 50000


class Cases(unittest.TestCase):

    def each(self, cases):
        for text, number in cases:
            with self.subTest(text=text[:80]):
                self.assertEqual(read_answer(text), number)

    def all_as_told(self, texts):
        self.each([(text, 0) for text in texts])


class AsTold(Cases):

    def test_ordinary(self):
        self.all_as_told(["p cnf 2 2 e 1 0 a 2 0 1 -2 0 -1 0", "p cnf 3 1 a 3 1 0 e 2 0 -2 3 1 0"])

    def test_every_gap_by_itself_and_runs_of_them(self):
        words = "p cnf 2 1 e 2 0 a 1 0 1 -2 0".split(" ")
        for gap in list(GAPS) + ["\r\n", " \t\n\r", "\n\n\n", "\t \t", " " * 500]:
            self.all_as_told([gap.join(words), gap + gap.join(words), gap.join(words) + gap,
                              gap + gap.join(words) + gap])

    def test_gaps_need_not_be_alike(self):
        self.all_as_told(["\n p\tcnf\r1 \t\n1\n\ne 1\r\r0 -1\t\t0\r\n"])

    def test_one_block(self):
        self.all_as_told(["p cnf 3 0 e 1 2 3 0", "p cnf 3 0 a 3 1 2 0"])

    def test_several_blocks(self):
        self.all_as_told(["p cnf 4 1 e 4 0 a 2 3 0 e 1 0 4 3 2 1 0", "p cnf 3 0 a 2 0 e 3 0 a 1 0"])

    def test_two_blocks_of_one_kind_behind_one_another(self):
        self.all_as_told(["p cnf 2 1 e 1 0 e 2 0 1 0", "p cnf 3 0 a 1 0 a 3 0 a 2 0", "p cnf 3 0 e 2 0 a 1 0 a 3 0"])

    def test_fewest_and_most_variables(self):
        self.all_as_told(["p cnf 1 1 e 1 0 -1 0",
                          f"p cnf 20 2 e {numbers(1, 10)} 0 a {numbers(11, 20)} 0 {numbers(1, 20)} 0 -20 0",
                          "p cnf 20 0 " + " ".join(f"{'ea'[k % 2]} {k} 0" for k in range(20, 0, -1))])

    def test_every_number_of_variables(self):
        self.all_as_told([f"p cnf {most} 1 a {numbers(1, most)} 0 -{most} 0" for most in range(1, 21)])

    def test_fewest_and_most_clauses(self):
        self.all_as_told(["p cnf 1 0 a 1 0", "p cnf 1 1024 e 1 0" + " 1 0" * 1024, "p cnf 1 1024 e 1 0" + " 0" * 1024])

    def test_clauses_without_literals(self):
        self.all_as_told(["p cnf 1 1 e 1 0 0", "p cnf 2 3 a 1 2 0 0 1 -2 0 0"])

    def test_the_same_variable_in_other_clauses(self):
        self.all_as_told(["p cnf 1 3 e 1 0 1 0 1 0 -1 0"])

    def test_as_long_as_a_text_may_be(self):
        clauses = [" " + " ".join(str(-k) for k in range(1, 21)) + " 0"] * 800
        text = f"p cnf 20 800 e {numbers(1, 20)} 0" + "".join(clauses)
        self.assertLess(len(text), 59000)
        self.all_as_told([text.ljust(59000)])


class Head(Cases):

    def test_p(self):
        self.each([(f"{word} cnf 1 0 e 1 0", 1)
                   for word in ["P", "pp", "q", "cnf", "p.", "0", "-", "c", "p\0", "pcnf"]])

    def test_cnf(self):
        self.each([(f"p {word} 1 0 e 1 0", 2)
                   for word in ["CNF", "cn", "cnff", "c", "p", "dnf", "fnc", "1", "cnf1", "cnf-", "Cnf"]])

    def test_v_is_no_number(self):
        self.each([(f"p cnf {word} 0 e 1 0", 3)
                   for word in ["x", "-1", "+1", "1.", "1x", "x1", "-", "--1", "e", "1-", "1e1", "0x1", "1_0", "-0"]])

    def test_v_has_a_leading_0(self):
        self.each([(f"p cnf {word} 0 e 1 0", 3) for word in ["01", "00", "001", "020", "010"]])

    def test_v_out_of_its_range(self):
        self.each([(f"p cnf {word} 0 e 1 0", 3) for word in ["0", "21", "22", "30", "100", "200", "1024", "4294967297"]])

    def test_c_is_no_number(self):
        self.each([(f"p cnf 1 {word} e 1 0", 4) for word in ["x", "-1", "-0", "+0", "0.", "0x", "e", "a", "-", "1e1"]])

    def test_c_has_a_leading_0(self):
        self.each([(f"p cnf 1 {word} e 1 0 0", 4) for word in ["01", "00", "000", "01024", "0001"]])

    def test_c_out_of_its_range(self):
        self.each([(f"p cnf 1 {word} e 1 0" + " 0" * 1025, 4)
                   for word in ["1025", "1026", "2000", "10240", "65536", "4294967296", "18446744073709551616"]])


class Blocks(Cases):

    def test_without_variables(self):
        self.each([("p cnf 1 0 e 0", 6), ("p cnf 1 0 a 0", 6), ("p cnf 1 0 e 0 e 1 0", 6),
                   ("p cnf 2 0 e 1 0 a 0 e 2 0", 9), ("p cnf 1 1 e 1 0 e 0 0", 8)])

    def test_a_variable_outside_its_range(self):
        self.each([("p cnf 2 0 e 3 1 2 0", 6), ("p cnf 2 0 e 1 3 2 0", 7), ("p cnf 20 0 e 20 21 0", 7),
                   ("p cnf 2 0 e 1 0 a 3 0", 9), ("p cnf 1 0 e 1 2 0", 7)])

    def test_a_variable_that_is_none(self):
        self.each([(f"p cnf 2 0 e 1 {word} 0", 7)
                   for word in ["-2", "02", "-0", "00", "x", "e", "a", "+2", "2x", "p", "cnf", "-"]])
        self.each([("p cnf 2 0 e -1 2 0", 6), ("p cnf 2 0 e e 1 2 0", 6), ("p cnf 2 0 a 01 2 0", 6)])

    def test_a_variable_twice(self):
        self.each([("p cnf 2 0 e 1 1 0", 7), ("p cnf 2 0 e 1 0 a 1 0", 9), ("p cnf 2 0 e 1 0 e 1 0", 9),
                   ("p cnf 2 0 e 1 2 1 0", 8), ("p cnf 3 0 e 3 0 a 2 3 1 0", 10)])

    def test_e_or_a_behind_the_last_block(self):
        self.each([("p cnf 1 0 e 1 0 e", 8), ("p cnf 1 0 e 1 0 a 1 0", 8), ("p cnf 1 1 e 1 0 a 1 0 1 0", 8),
                   ("p cnf 1 1 a 1 0 e 2 0 1 0", 8), ("p cnf 2 1 a 1 0 e 2 0 e 0", 11), ("p cnf 1 1 e 1 0 1 e 0", 9)])

    def test_another_word_where_a_block_must_begin(self):
        self.each([(f"p cnf 1 0 {word} 1 0", 5)
                   for word in ["1", "0", "E", "A", "ea", "ee", "aa", "some", "all", "p", "e1", "-e", "-1"]])
        self.each([("p cnf 2 1 e 1 0 1 2 0", 8), ("p cnf 2 1 e 1 0 0 a 2 0", 8), ("p cnf 2 1 e 1 0 -2 0", 8),
                   ("p cnf 2 1 e 1 0 d 2 0", 8)])

    def test_a_block_that_is_not_ended(self):
        self.each([("p cnf 2 0 e 1 a 2 0", 7), ("p cnf 2 1 e 1 2 -1 0", 8), ("p cnf 2 1 e 1 2 1 0", 8)])


class Clauses(Cases):

    def test_a_literal_that_is_none(self):
        for word in ["-0", "--1", "-01", "01", "00", "+1", "1-", "-", "--", "x", "-x", "1x", "-1x", "p", "cnf", "e",
                     "a", "-e", "1.", "1-1", "-00", "--0", "-+1", "0-1"]:
            self.each([(f"p cnf 2 1 e 1 2 0 {word} 0", 9), (f"p cnf 2 1 e 1 2 0 2 {word} 0", 10),
                       (f"p cnf 2 2 e 1 2 0 2 0 {word} 0", 11)])

    def test_a_variable_outside_its_range(self):
        self.each([("p cnf 2 1 e 1 2 0 3 0", 9), ("p cnf 2 1 e 1 2 0 -3 0", 9), ("p cnf 2 1 e 1 2 0 1 3 0", 10),
                   (f"p cnf 20 1 e {numbers(1, 20)} 0 20 -21 0", 28), ("p cnf 2 1 e 1 2 0 -20 0", 9),
                   ("p cnf 2 1 e 1 2 0 4294967297 0", 9), ("p cnf 2 1 e 1 2 0 -4294967297 0", 9)])

    def test_a_variable_twice_with_the_same_sign(self):
        self.each([("p cnf 2 1 e 1 2 0 1 1 0", 10), ("p cnf 2 1 e 1 2 0 -1 -1 0", 10),
                   ("p cnf 2 1 e 1 2 0 1 2 1 0", 11), ("p cnf 2 2 e 1 2 0 1 0 -2 1 -2 0", 13)])

    def test_a_variable_twice_with_the_other_sign(self):
        self.each([("p cnf 2 1 e 1 2 0 1 -1 0", 10), ("p cnf 2 1 e 1 2 0 -1 1 0", 10),
                   ("p cnf 2 1 e 1 2 0 -2 1 2 0", 11)])

    def test_words_behind_the_last(self):
        for word in ["0", "1", "-1", "e", "p", "x", "\0", "\x7f", "\xff"]:
            self.each([(f"p cnf 1 1 e 1 0 1 0 {word}", 10), (f"p cnf 1 0 e 1 0 {word}", 8),
                       (f"p cnf 1 1 e 1 0 0 {word} 0", 9)])

    def test_more_clauses_than_the_most(self):
        self.each([("p cnf 1 1024 e 1 0" + " 0" * 1025, 7 + 1025)])


class Bytes(Cases):

    WORDS = "p cnf 2 2 e 1 0 a 2 0 1 -2 0 0".split(" ")

    def test_only_four_bytes_part_words(self):
        for sign in EVERY_BYTE:
            self.each([(sign.join(["p", "cnf 1 0 e 1 0"]), 0 if sign in GAPS else 1)])

    def test_a_byte_put_behind_or_before_a_word(self):
        for k, word in enumerate(self.WORDS):
            before, after = self.WORDS[:k], self.WORDS[k + 1:]
            bad = [sign for sign in EVERY_BYTE if sign not in GAPS and sign not in "-0123456789"]
            texts = [" ".join(before + [put] + after) for sign in bad for put in (sign + word, word + sign)]
            self.assertEqual(read_answers(texts), [k + 1] * len(texts))

    def test_a_byte_in_the_place_of_a_word(self):
        may_stand = [set("p"), set(), set("123456789"), set("0123456789"), set("ea"), set("12"), set("02"),
                     set("ea"), set("2"), set("0"), set("012"), set("02")]
        for k, may_be in enumerate(may_stand):
            before, after = self.WORDS[:k], self.WORDS[k + 1:]
            texts = [" ".join(before + [sign] + after) for sign in EVERY_BYTE
                     if sign not in GAPS and sign not in may_be]
            self.assertEqual(set(read_answers(texts)), {k + 1})

    def test_bad_bytes_by_themselves(self):
        self.each([("\0", 1), ("\x0b", 1), ("\x0c", 1), ("\x1f", 1), ("\x7f", 1), ("\x80", 1), ("\x85", 1),
                   ("\xa0", 1), ("\xff", 1), (" \0 \0 ", 1), ("p \x0b cnf", 2), ("p cnf\x0c1 0 e 1 0", 2)])

    def test_the_first_wrong_word_is_told(self):
        self.each([("p cnf 1 0 x 1 0 \0", 5), ("p cnf 1 0 e \xff 0 x", 6), ("q dnf 0 9999", 1)])


class LongWords(Cases):

    def test_many_thousand_digits(self):
        for digits in ["1" * LONG, "9" * LONG, "0" * LONG, "0" * LONG + "1", "1" + "0" * LONG]:
            self.each([(f"p cnf {digits} 0 e 1 0", 3), (f"p cnf 1 {digits} e 1 0", 4), (f"p cnf 1 0 e {digits} 0", 6),
                       (f"p cnf 1 0 e 1 {digits}", 7), (f"p cnf 1 1 e 1 0 {digits} 0", 8),
                       (f"p cnf 1 1 e 1 0 -{digits} 0", 8), (f"p cnf 1 1 e 1 0 1 {digits}", 9)])

    def test_many_thousand_other_signs(self):
        for word in ["-" * LONG, "p" * LONG, "e" * LONG, "-" * LONG + "1", "\xff" * LONG]:
            self.each([(word, 1), (f"p cnf 1 0 {word} 1 0", 5), (f"p cnf 1 1 e 1 0 {word} 0", 8)])


class BreakingOff(Cases):

    TEXTS = ["p cnf 2 2 e 1 0 a 2 0 1 -2 0 0", "p cnf 3 0 a 3 1 2 0", "p cnf 4 3 e 4 0 e 2 0 a 1 3 0 0 -1 -2 0 4 3 2 1 0"]

    def test_after_each_word(self):
        for text in self.TEXTS:
            words = text.split(" ")
            self.each([(" ".join(words[:k]), k + 1) for k in range(len(words))] + [(text, 0)])

    def test_after_each_word_with_gaps_behind(self):
        for text in self.TEXTS:
            words = text.split(" ")
            self.each([("\n".join(words[:k]) + "\r\n ", k + 1) for k in range(len(words))])

    def test_the_empty_text(self):
        self.each([("", 1), (" ", 1), (" \t\r\n" * 100, 1)])

    def test_one_clause_less_than_told(self):
        self.each([("p cnf 1 1024 e 1 0" + " 0" * 1023, 7 + 1024), ("p cnf 1 2 e 1 0 1 0", 10)])


def clauses_over(most):
    signed = [[()] + [(f"{v}",), (f"-{v}",)] for v in range(1, most + 1)]
    found = set()
    for picked in itertools.product(*signed):
        for ordered in itertools.permutations([literal for literal in picked if literal]):
            found.add(tuple(word for literal in ordered for word in literal) + ("0",))
    return sorted(found)


def blocks_over(most):
    found = []
    for ordered in itertools.permutations([str(v) for v in range(1, most + 1)]):
        for cuts in itertools.product([False, True], repeat=most - 1):
            blocks = [[ordered[0]]]
            for variable, cut in zip(ordered[1:], cuts):
                if cut:
                    blocks.append([])
                blocks[-1].append(variable)
            for kinds in itertools.product("ea", repeat=len(blocks)):
                found.append(tuple(word for kind, block in zip(kinds, blocks) for word in [kind] + block + ["0"]))
    return found


class AllSmallTexts(unittest.TestCase):
    """Each way to write down a formula of one or two variables and up to two clauses, and each word behind it."""

    SIGNS = ["p", "cnf", "e", "a", "0", "1", "2", "-1", "-2", "-0", "01", "3", "x"]

    def whole_texts(self):
        for most in (1, 2):
            for how_many in (0, 1, 2):
                for blocks in blocks_over(most):
                    for clauses in itertools.product(clauses_over(most), repeat=how_many):
                        body = tuple(word for clause in clauses for word in clause)
                        yield ("p", "cnf", str(most), str(how_many)) + blocks + body

    def test_each_word_behind_each_beginning(self):
        whole = set(self.whole_texts())
        begun = {text[:k] for text in whole for k in range(len(text) + 1)}
        cases = {(): 1}
        for beginning in begun:
            cases[beginning] = 0 if beginning in whole else len(beginning) + 1
            for word in self.SIGNS:
                # 3 clauses or variables are as told too, but not among these texts.
                if beginning + (word,) not in begun and not (word == "3" and len(beginning) in (2, 3)):
                    cases[beginning + (word,)] = len(beginning) + 1
        texts = sorted(cases)
        found = read_answers([" ".join(text) for text in texts])
        wrong = [(text, number) for text, number in zip(texts, found) if number != cases[text]]
        self.assertEqual(wrong[:5], [])
        self.assertGreater(len(texts), 10000)


if __name__ == "__main__":
    unittest.main()
