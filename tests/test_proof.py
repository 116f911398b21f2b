"""Point 6: which proofs are as told, and at which word the others are not."""

import itertools
import random
import re
import unittest

from helper import (BEGIN, TRUE, ask, numbers, numbers_about, order_of, proof, read, some_blocks, some_clauses, text_of,
                    true_of)
from someall.formula import read_formula
from someall.proof import check_proof
from someall.words import WrongWord

GAPS = " \t\n\r"
LONG = 50000

R_ALONE = "p cnf 1 2 e 1 0 1 0 -1 0"
U_ALONE = "p cnf 1 1 a 1 0 1 0"
BOTH = "p cnf 2 2 e 1 0 a 2 0 1 2 0 -1 -2 0"
BOTH_PROOF = "u 1 u 2 r 3 4 1"


def told_u(order, clause):
    def stays(literal):
        place = [variable for kind, variable in order].index(abs(literal))
        return any(kind == "e" and {variable, -variable} & clause for kind, variable in order[place:])
    return {literal for literal in clause if stays(literal)}


def told_r(order, one, other, x):
    """The clause, or None where what is told of the clauses isn't so."""
    if ("e", x) not in order or x not in one or -x not in other:
        return None
    if any(-literal in other for literal in one if literal != x):
        return None
    return (one | other) - {x, -x}


def told_proof(order, clauses, words):
    """What the document says of a proof, given as a list of words."""
    known = [set(clause) for clause in clauses]
    words = words + [None]
    at = 0
    while words[at] is not None:
        begins = words[at]
        if begins not in ("r", "u"):
            return at + 1
        named = []
        for most in [len(known)] if begins == "u" else [len(known), len(known), len(order)]:
            at = at + 1
            if words[at] is None or not re.fullmatch("[1-9][0-9]*", words[at], re.ASCII):
                return at + 1
            if len(words[at]) > 9 or int(words[at]) > most:
                return at + 1
            named.append(int(words[at]))
        made = (told_u(order, known[named[0] - 1]) if begins == "u" else
                told_r(order, known[named[0] - 1], known[named[1] - 1], named[2]))
        if made is None:
            return at + 1
        known.append(made)
        at = at + 1
    return 0 if at > 0 and not known[-1] else at + 1


def found_proof(order, clauses):
    """A proof, found by making every clause that can be made; None where none is without literals."""
    known = [frozenset(clause) for clause in clauses]
    seen = set(known)
    words = []
    at = 0
    while at < len(known):
        made = [(f"u {at + 1}", told_u(order, known[at]))]
        for other in range(at):
            for one, two in [(at, other), (other, at)]:
                made.extend((f"r {one + 1} {two + 1} {x}", told_r(order, known[one], known[two], x))
                            for kind, x in order if x in known[one] and -x in known[two])
        for step, clause in made:
            if clause is not None and (not clause or frozenset(clause) not in seen):
                words.append(step)
                known.append(frozenset(clause))
                seen.add(known[-1])
                if not clause:
                    return " ".join(words)
        at = at + 1
    return None


def proof_answers(text, proofs):
    return numbers_about(text, [proof(steps) for steps in proofs])


class Cases(unittest.TestCase):

    def each(self, text, cases):
        for steps, expected in cases:
            with self.subTest(text=text[:80], steps=steps[:80]):
                self.assertEqual(proof_answers(text, [steps]), [expected])


class AsTold(Cases):

    def test_r_alone(self):
        self.each(R_ALONE, [("r 1 2 1", 0)])
        self.each("p cnf 2 3 e 2 1 0 1 2 0 -1 2 0 -2 0", [("r 1 2 1 r 4 3 2", 0), ("r 2 3 2 r 1 3 2 r 5 4 1", 0)])

    def test_u_alone(self):
        self.each(U_ALONE, [("u 1", 0), ("u 1 u 2 u 1", 0)])
        self.each("p cnf 3 2 a 1 0 e 3 0 a 2 0 3 0 -2 1 0", [("u 2", 0), ("u 1 u 2", 0), ("u 2 u 3", 0)])

    def test_both(self):
        self.each(BOTH, [(BOTH_PROOF, 0), ("u 2 u 1 r 4 3 1", 0)])
        self.each("p cnf 3 3 a 1 0 e 2 0 a 3 0 1 2 3 0 1 -2 0 2 0", [("u 1 r 4 2 2 u 5", 0), ("r 3 2 2 u 4", 0)])

    def test_any_run_of_gaps(self):
        words = BOTH_PROOF.split(" ")
        for gap in list(GAPS) + ["\r\n", "\n\r\t ", " \t", "\n" * 300]:
            self.each(BOTH, [(gap.join(words), 0), (gap + gap.join(words), 0), (gap.join(words) + gap, 0),
                             (gap + gap.join(words) + gap, 0)])
        self.each(BOTH, [("\tu\n1\r\ru 2 \t\nr 3\n4\t1\r", 0)])

    def test_the_clause_of_the_step_before(self):
        self.each("p cnf 2 3 e 1 2 0 1 2 0 -1 0 -2 0", [("r 1 2 1 r 4 3 2", 0), ("r 1 2 1 u 4 u 5 r 6 3 2 u 7", 0)])

    def test_any_step_any_number_of_times(self):
        self.each(R_ALONE, [("u 1 u 1 u 1 r 3 2 1 r 4 2 1 r 5 2 1", 0), ("r 1 2 1 u 3 u 3 u 4", 0),
                            ("r 1 2 1 r 1 2 1", 0)])

    def test_literals_in_both_with_the_same_sign(self):
        text = "p cnf 3 4 e 1 3 2 0 1 2 0 1 -2 0 -1 3 0 -1 -3 0"
        self.each(text, [("r 1 2 2 r 3 4 3 r 5 6 1", 0)])
        text = "p cnf 4 5 a 4 0 e 1 2 3 0 1 -2 3 4 0 1 -2 -3 4 0 2 0 -1 4 0 4 0"
        self.each(text, [("r 1 2 3 r 3 6 2 r 7 4 1 u 8", 0)])

    def test_an_empty_clause_of_the_text(self):
        self.each("p cnf 1 1 e 1 0 0", [("u 1", 0)])
        self.each("p cnf 2 3 e 1 0 a 2 0 1 0 0 2 0", [("u 2", 0), ("u 1 u 2", 0), ("u 3", 0), ("u 2 u 1", 5)])

    def test_a_large_variable_and_clause(self):
        text = f"p cnf 20 1024 e {numbers(1, 20)} 0" + " 1 2 0" * 1022 + " 20 0 -20 0"
        self.each(text, [("r 1023 1024 20", 0), ("u 1023 r 1025 1024 20", 0), ("r 1024 1023 20", 4), ("u 1025", 2),
                         ("u 1 r 1023 1024 20", 0), ("u 1 r 1026 1024 20", 4)])


class WrongWords(Cases):

    def test_another_word_where_a_step_begins(self):
        for word in ["x", "R", "U", "rr", "uu", "ru", "e", "a", "p", "0", "1", "-", "r1", "u1", "-u", "u.", "d", "res"]:
            self.each(BOTH, [(f"{word} 1", 1), (f"u 1 {word} 2 r 3 4 1", 3), (f"u 1 u 2 {word} 3 4 1", 5),
                             (BOTH_PROOF + f" {word}", 9), (word, 1)])

    def test_a_is_no_number(self):
        for word in ["x", "-1", "+1", "1.", "1x", "x1", "-", "u", "r", "01", "001", "00", "1-", "0x1", "1e0", "1_1", "-0"]:
            self.each(BOTH, [(f"u {word}", 2), (f"u 1 u {word} r 3 4 1", 4), (f"r {word} 2 1", 2), (f"u 1 r {word} 2 1", 4)])

    def test_b_is_no_number(self):
        for word in ["x", "-2", "+2", "2.", "2x", "x2", "-", "u", "r", "02", "002", "00", "2-", "0x2", "2e0", "1_1"]:
            self.each(BOTH, [(f"r 1 {word} 1", 3), (f"u 1 u 2 r 3 {word} 1", 7)])

    def test_x_is_no_number(self):
        for word in ["x", "-1", "+1", "1.", "1x", "x1", "-", "u", "r", "01", "001", "00", "1-", "0x1", "1e0", "1_1"]:
            self.each(R_ALONE, [(f"r 1 2 {word}", 4), (f"u 1 r 1 2 {word}", 6)])
            self.each(BOTH, [(f"u 1 u 2 r 3 4 {word}", 8)])

    def test_0(self):
        self.each(BOTH, [("u 0", 2), ("r 0 2 1", 2), ("r 1 0 1", 3), ("u 1 u 2 r 3 4 0", 8), ("u 1 u 0", 4)])

    def test_a_clause_that_is_not_before_it(self):
        for number in ["3", "4", "9", "10", "100", "65536", "4294967297", "18446744073709551617"]:
            self.each(BOTH, [(f"u {number}", 2), (f"r {number} 2 1", 2), (f"r 1 {number} 1", 3)])
        for number in ["5", "6", "50", "4294967299"]:
            self.each(BOTH, [(f"u 1 u 2 r {number} 4 1", 6), (f"u 1 u 2 r 3 {number} 1", 7), (f"u 1 u 2 u {number}", 6)])
        self.each("p cnf 1 0 e 1 0", [("u 1", 2), ("r 1 1 1", 2), ("u 0", 2)])
        self.each("p cnf 1 1 e 1 0 0", [("u 2", 2), ("u 1 u 3", 4), ("u 1 u 2 u 4", 6), ("u 1 u 2 u 3", 0)])

    def test_x_above_v(self):
        for number in ["2", "3", "10", "20", "21", "4294967297"]:
            self.each(R_ALONE, [(f"r 1 2 {number}", 4), (f"u 1 r 1 2 {number} r 1 2 1", 6)])

    def test_x_of_all(self):
        self.each("p cnf 1 2 a 1 0 1 0 -1 0", [("r 1 2 1", 4)])
        self.each("p cnf 2 2 a 1 0 e 2 0 1 0 -1 0", [("r 1 2 1", 4), ("r 1 2 2", 4)])
        self.each("p cnf 2 2 e 1 0 a 2 0 2 0 -2 0", [("r 1 2 2", 4), ("u 1 r 1 2 2", 6)])
        self.each("p cnf 2 2 a 2 0 e 1 0 1 0 -1 0", [("r 1 2 1", 0), ("r 1 2 2", 4)])

    def test_a_has_not_x(self):
        text = "p cnf 3 4 e 1 2 3 0 2 0 -1 0 -1 3 0 0"
        self.each(text, [("r 1 2 1", 4), ("r 1 3 1", 4), ("r 4 2 1", 4), ("u 1 r 5 2 1", 6)])

    def test_a_has_minus_x(self):
        self.each(R_ALONE, [("r 2 1 1", 4), ("r 2 2 1", 4)])
        self.each("p cnf 2 2 e 1 2 0 -1 2 0 1 2 0", [("r 1 2 1", 4), ("r 2 1 1", 5)])

    def test_b_has_not_minus_x(self):
        self.each("p cnf 2 4 e 1 2 0 1 0 1 2 0 -2 0 0", [("r 1 1 1", 4), ("r 1 2 1", 4), ("r 1 3 1", 4), ("r 1 4 1", 4),
                                                         ("r 2 3 1", 4), ("r 2 3 2", 5)])

    def test_another_variable_with_different_signs(self):
        for kind in "ea":
            self.each(f"p cnf 2 2 e 1 0 {kind} 2 0 1 2 0 -1 -2 0", [("r 1 2 1", 4)])
            self.each(f"p cnf 2 2 {kind} 2 0 e 1 0 1 -2 0 -1 2 0", [("r 1 2 1", 4)])
            self.each(f"p cnf 3 3 {kind} 3 0 e 1 2 0 1 2 3 0 -1 2 -3 0 -1 2 3 0", [("r 1 2 1", 4), ("r 1 3 1", 5)])
        self.each("p cnf 2 2 e 1 2 0 1 2 0 -1 -2 0", [("r 1 2 2", 4), ("r 2 1 1", 4)])

    def test_what_a_step_made_is_asked_too(self):
        text = "p cnf 3 4 e 1 2 3 0 1 2 0 -1 3 0 -2 -3 0 -2 1 0"
        self.each(text, [("r 1 2 1 r 5 3 2", 8), ("r 1 2 1 r 5 3 3", 8), ("r 1 2 1 r 5 4 2", 9),
                         ("r 1 2 1 r 5 2 1", 8), ("r 1 2 1 r 1 5 1", 8)])

    def test_the_first_wrong_word_is_told(self):
        self.each(BOTH, [("x y", 1), ("u x y", 2), ("r x y z", 2), ("r 1 y z", 3), ("r 1 2 z z", 4), ("r 3 9 9", 2),
                         ("r 1 9 9", 3), ("r 1 2 1 x", 4), ("u 1 x u 9", 3), ("r 1 2 9", 4), ("r 3 9", 2), ("u 9", 2)])


class TheEnd(Cases):

    def test_after_each_word(self):
        for text, steps in [(BOTH, BOTH_PROOF), (R_ALONE, "r 1 2 1"), (R_ALONE, "u 1 u 2 r 3 4 1"), (U_ALONE, "u 1")]:
            words = steps.split(" ")
            self.each(text, [(" ".join(words[:k]), k + 1) for k in range(len(words))] + [(steps, 0)])
            self.each(text, [("\n ".join(words[:k]) + "\t\r\n ", k + 1) for k in range(len(words))])

    def test_a_step_that_breaks_off_behind_an_empty_clause(self):
        self.each(R_ALONE, [("r 1 2 1 r", 6), ("r 1 2 1 r 1", 7), ("r 1 2 1 r 1 2", 8), ("r 1 2 1 u", 6)])

    def test_no_words(self):
        for text in [R_ALONE, U_ALONE, BOTH, "p cnf 1 0 e 1 0"]:
            self.each(text, [("", 1), (" ", 1), ("\r\n\t ", 1)])

    def test_no_step_though_the_clauses_of_the_text_are_empty(self):
        for text in ["p cnf 1 1 e 1 0 0", "p cnf 1 1 a 1 0 0", "p cnf 2 3 e 1 0 a 2 0 0 0 0"]:
            self.each(text, [("", 1), ("\n", 1), ("u 1", 0)])

    def test_the_last_clause_is_not_empty_though_an_earlier_one_was(self):
        self.each(R_ALONE, [("r 1 2 1 u 1", 7), ("r 1 2 1 u 3 u 2", 9), ("u 1", 3), ("u 1 r 1 2 1", 0)])
        self.each("p cnf 2 2 e 1 0 e 2 0 0 1 0", [("u 2", 3), ("u 1 u 2", 5), ("u 2 u 1", 0)])

    def test_above_the_most_steps(self):
        # As many steps don't fit into a text of 59000 bytes: so it's asked of the function within.
        formula = read_formula([ord(sign) for sign in U_ALONE])
        most = [ord(sign) for sign in "u 1 " * 65536]
        check_proof(formula, most)
        for further in ["u 1", "u", "x", "r 1 1 1"]:
            with self.assertRaises(WrongWord) as caught:
                check_proof(formula, most + [ord(sign) for sign in further])
            self.assertEqual(caught.exception.number, 2 * 65536 + 1)


class U(Cases):
    """What `u` leaves is seen where it meets a clause with the other sign: that's wrong if the literal stayed."""

    def left_of(self, blocks, clause):
        """The literals that `u` leaves of a clause, asked one by one."""
        kind_of = {variable: kind for kind, block in blocks for variable in block}
        somes = [literal for literal in clause if kind_of[abs(literal)] == "e"]
        alls = [literal for literal in clause if kind_of[abs(literal)] == "a"]
        probes = [[-literal] for literal in somes] + [[-somes[0], -literal] for literal in alls]
        met = [somes[0]] * len(alls)
        text = text_of(blocks, [clause] + probes)
        last = len(probes) + 2
        left = []
        for k, (literal, x) in enumerate(zip(somes + alls, somes + met)):
            named = f"{last} {k + 2}" if x > 0 else f"{k + 2} {last}"
            # The step's clause has somes[0] always; the last step is wrong at its last word or just not empty.
            answer, = proof_answers(text, [f"u 1 r {named} {abs(x)}"])
            self.assertIn(answer, (0, 6, 7))
            if (answer == 6) == (literal in alls):
                left.append(literal)
        return left

    def test_only_those_go_behind_which_none_of_some_stands(self):
        self.assertEqual(self.left_of([("a", [1]), ("e", [2]), ("a", [3])], [1, 2, 3]), [2, 1])
        self.assertEqual(self.left_of([("a", [1]), ("e", [2]), ("a", [3])], [-3, -2, -1]), [-2, -1])
        self.assertEqual(self.left_of([("a", [1, 2]), ("e", [3])], [1, -2, 3]), [3, 1, -2])
        self.assertEqual(self.left_of([("e", [1]), ("a", [2, 3])], [1, -2, 3]), [1])
        self.assertEqual(self.left_of([("e", [1]), ("a", [2]), ("e", [3]), ("a", [4])], [1, 2, -3, 4]), [1, -3, 2])

    def test_only_some_that_the_clause_has_count(self):
        # 3 stands behind 2, but not in the clause.
        self.assertEqual(self.left_of([("e", [1]), ("a", [2]), ("e", [3])], [1, 2]), [1])
        self.assertEqual(self.left_of([("a", [4]), ("e", [1]), ("a", [2]), ("e", [3])], [4, 1, 2]), [1, 4])

    def test_the_order_is_not_that_of_the_numbers(self):
        self.assertEqual(self.left_of([("a", [3]), ("e", [2]), ("a", [1])], [1, 2, 3]), [2, 3])
        self.assertEqual(self.left_of([("a", [4]), ("e", [1]), ("a", [3, 2])], [1, 2, 3, 4]), [1, 4])
        self.assertEqual(self.left_of([("e", [4]), ("a", [1]), ("e", [3]), ("a", [2])], [1, -2, -3, -4]), [-3, -4, 1])
        self.assertEqual(self.left_of([("e", [3]), ("a", [1, 2])], [1, 2, 3]), [3])

    def test_every_order_of_kinds(self):
        for ordered in [(1, 2), (2, 1), (2, 3, 1), (3, 2, 1), (1, 2, 3, 4), (3, 1, 4, 2), (5, 2, 4, 1, 3)]:
            for kinds in itertools.product("ea", repeat=len(ordered)):
                if "e" in kinds:
                    blocks = [(kind, [variable]) for kind, variable in zip(kinds, ordered)]
                    clause = [(-1) ** k * variable for k, variable in enumerate(ordered)]
                    self.assertEqual(set(self.left_of(blocks, clause)), told_u(order_of(blocks), set(clause)))

    def test_none_of_some_in_the_clause(self):
        self.each("p cnf 3 1 e 1 0 a 2 3 0 2 -3 0", [("u 1", 0)])
        self.each("p cnf 3 1 a 2 3 0 e 1 0 2 -3 0", [("u 1", 0)])

    def test_a_clause_of_some_alone_stays(self):
        self.each("p cnf 2 1 e 1 2 0 1 -2 0", [("u 1", 3)])
        self.each("p cnf 2 2 e 1 0 a 2 0 1 0 -1 0", [("u 1 r 3 2 1", 0), ("u 2 r 1 3 1", 0)])

    def test_the_clause_it_names_is_as_it_was(self):
        # Still with 2 and -2, 1 and 2 don't go together behind the steps either.
        self.each(BOTH, [("u 1 u 2 r 1 2 1", 8), ("u 1 r 3 2 1", 7), ("u 1 r 3 2 1 u 4", 0)])


class LongWords(Cases):

    def test_many_thousand_digits(self):
        for digits in ["1" * LONG, "9" * LONG, "0" * LONG, "0" * LONG + "1", "1" + "0" * LONG]:
            self.each(R_ALONE, [(digits, 1), (f"u {digits}", 2), (f"r {digits} 2 1", 2), (f"r 1 {digits} 1", 3),
                                (f"r 1 2 {digits}", 4), (f"r 1 2 1 {digits}", 5), (f"u 1 u {digits} r 1 2 1", 4)])

    def test_many_thousand_other_signs(self):
        for word in ["r" * LONG, "u" * LONG, "-" * LONG, "-" * LONG + "1", "\xff" * LONG, "\0" * LONG, "1" * LONG + "x"]:
            self.each(R_ALONE, [(word, 1), (f"u {word}", 2), (f"r 1 {word} 1", 3), (f"r 1 2 {word}", 4),
                                (f"r 1 2 1 {word}", 5)])


class Bytes(Cases):

    WORDS = BOTH_PROOF.split(" ")
    EVERY_BYTE = [chr(byte) for byte in range(256)]

    def test_only_four_bytes_part_words(self):
        found = proof_answers(U_ALONE, [f"u{sign}1" for sign in self.EVERY_BYTE])
        self.assertEqual(found, [0 if sign in GAPS else 1 for sign in self.EVERY_BYTE])

    def test_a_byte_put_behind_or_before_a_word(self):
        bad = [sign for sign in self.EVERY_BYTE if sign not in GAPS and sign not in "0123456789"]
        for k, word in enumerate(self.WORDS):
            before, after = self.WORDS[:k], self.WORDS[k + 1:]
            proofs = [" ".join(before + [put] + after) for sign in bad for put in (sign + word, word + sign)]
            self.assertEqual(proof_answers(BOTH, proofs), [k + 1] * len(proofs))

    def test_a_byte_in_the_place_of_a_word(self):
        order, clauses = [("e", 1), ("a", 2)], [[1, 2], [-1, -2]]
        for k in range(len(self.WORDS)):
            rows = [self.WORDS[:k] + [sign] + self.WORDS[k + 1:] for sign in self.EVERY_BYTE if sign not in GAPS]
            expected = [told_proof(order, clauses, row) for row in rows]
            self.assertEqual(proof_answers(BOTH, [" ".join(row) for row in rows]), expected)

    def test_bytes_that_no_word_may_have(self):
        for byte in list(range(9)) + [11, 12] + list(range(14, 32)) + list(range(127, 256)):
            sign = chr(byte)
            self.each(R_ALONE, [(sign, 1), (f"r 1{sign} 2 1", 2), (f"r 1 {sign}2 1", 3), (f"r 1 2 {sign}", 4),
                                (f"r 1 2 1 {sign}", 5)])

    def test_within_a_number(self):
        text = f"p cnf 12 12 e {numbers(1, 12)} 0" + " 0" * 10 + " 12 0 -12 0"
        self.each(text, [("r 11 12 12", 0), ("u 10", 0)])
        for byte in [0, 1, 8, 11, 12, 14, 31, 33, 45, 47, 58, 126, 127, 128, 133, 160, 255]:
            sign = chr(byte)
            self.each(text, [(f"r 1{sign}1 12 12", 2), (f"r 11 1{sign}2 12", 3), (f"r 11 12 1{sign}2", 4),
                             (f"u 1{sign}0", 2)])


class AllAndSome(unittest.TestCase):
    """Proofs of formulas drawn by dice."""

    def test_what_is_not_true_has_a_proof_and_what_is_true_has_none(self):
        dice = random.Random(10)
        lengths = []
        for k in range(400):
            most = dice.randint(1, 4)
            blocks = some_blocks(dice, most)
            clauses = some_clauses(dice, most, dice.randint(1, 7), 3)
            steps = found_proof(order_of(blocks), clauses)
            self.assertEqual(steps is None, true_of([], order_of(blocks), clauses))
            if steps is not None and len(steps) < 20000:
                lengths.append(len(steps.split(" ")))
                text = text_of(blocks, clauses)
                self.assertEqual(ask(BEGIN, read(text), proof(steps), TRUE), [0, 0, 0, 0], (text, steps))
        self.assertGreater(len(lengths), 150)
        self.assertGreater(max(lengths), 40)

    def some_proof(self, dice, order, clauses):
        words = []
        known = [set(clause) for clause in clauses]
        for k in range(dice.randint(1, 12)):
            fitting = [(f"r {one + 1} {other + 1} {x}", told_r(order, known[one], known[other], x))
                       for one in range(len(known)) for other in range(len(known)) for kind, x in order]
            fitting = [(step, made) for step, made in fitting if made is not None]
            named = dice.randint(1, len(known))
            step, made = f"u {named}", told_u(order, known[named - 1])
            if fitting and dice.random() < 0.7:
                step, made = min(dice.sample(fitting, min(3, len(fitting))), key=lambda pair: len(pair[1]))
            words.extend(step.split(" "))
            known.append(made)
        return words

    def spoilt(self, dice, words):
        words = list(words)
        place = dice.randrange(len(words))
        word = dice.choice(["r", "u", "0", "01", "-1", "x", "1", "2", "3", "4", "5", str(dice.randint(1, 20))])
        change = dice.choice(["put", "take", "change", "change", "change", "cut"])
        if change == "put":
            words.insert(place, word)
        elif change == "take":
            words.pop(place)
        elif change == "change":
            words[place] = word
        else:
            words = words[:place]
        return words

    def test_proofs_with_a_word_changed(self):
        dice = random.Random(11)
        found = {"as told": 0, "within": 0, "at the end": 0}
        for k in range(250):
            most = dice.randint(1, 5)
            blocks = some_blocks(dice, most)
            clauses = some_clauses(dice, most, dice.randint(1, 8), 4)
            words = self.some_proof(dice, order_of(blocks), clauses)
            rows = [words] + [self.spoilt(dice, words) for again in range(20)]
            expected = [told_proof(order_of(blocks), clauses, row) for row in rows]
            text = text_of(blocks, clauses)
            self.assertEqual(proof_answers(text, [" ".join(row) for row in rows]), expected, (text, rows))
            for row, number in zip(rows, expected):
                kind = "as told" if number == 0 else "within" if number <= len(row) else "at the end"
                found[kind] = found[kind] + 1
        self.assertGreater(min(found.values()), 200)


class Largest(Cases):

    def test_as_many_steps_as_fit(self):
        steps = "u 1 " * 14750
        self.assertEqual(len(steps), 59000)
        self.each(U_ALONE, [(steps, 0), (steps[:-4] + "v 1 ", 29499), (steps[:-3], 29500), (steps[:-2] + "x ", 29500)])
        self.each("p cnf 1 1 e 1 0 1 0", [(steps, 29501)])

    def test_each_step_names_the_one_before(self):
        steps = []
        length = 0
        while length + len(f"u {len(steps) + 1} ") <= 59000:
            steps.append(f"u {len(steps) + 1} ")
            length = length + len(steps[-1])
        self.assertGreater(len(steps), 7000)
        self.each(U_ALONE, [("".join(steps), 0), ("".join(steps[:-1]) + f"u {len(steps) + 1}", 2 * len(steps))])
        self.each("p cnf 1 1 e 1 0 1 0", [("".join(steps), 2 * len(steps) + 1)])

    def test_long_clauses_put_together(self):
        # Each of 1 to 19 goes out by a clause of its own; 20 is of `a`, and goes at the last.
        blocks = [("e", list(range(1, 20))), ("a", [20])]
        clauses = [list(range(1, 21))] + [[-variable, *range(variable + 1, 21)] for variable in range(1, 20)]
        words = [f"r {1 if variable == 1 else 19 + variable} {variable + 1} {variable}" for variable in range(1, 20)]
        whole = " ".join(words)
        text = text_of(blocks, clauses)
        self.each(text, [(whole, 19 * 4 + 1), (whole + " u 39", 0), (whole + " u 38", 19 * 4 + 3)])
        many = "r 1 2 1 " * 7300
        self.each(text, [(many, 4 * 7300 + 1), (many + "r 1 2 1 r 1 1 1", 4 * 7302)])


if __name__ == "__main__":
    unittest.main()
