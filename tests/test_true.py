"""Point 3: whether a formula is true."""

import itertools
import random
import unittest

from helper import (BEGIN, BLOCKS_OF_TWO, TRUE, ask, clauses_of_two, numbers, order_of, read, some_blocks, some_clauses,
                    text_of, true_of, truth)


def told_truth(blocks, clauses):
    return 1 if true_of([], order_of(blocks), clauses) else 0


class Truth(unittest.TestCase):

    def test_nothing_is_held(self):
        self.assertEqual(ask(BEGIN, TRUE, TRUE), [0, -3, -3])

    def test_one_variable(self):
        for kind, clauses, expected in [("e", "1 1 0", 1), ("e", "1 -1 0", 1), ("e", "2 1 0 -1 0", 0),
                                        ("a", "1 1 0", 0), ("a", "1 -1 0", 0), ("a", "2 1 0 -1 0", 0)]:
            how_many, literals = clauses.split(" ", 1)
            self.assertEqual(truth(f"p cnf 1 {how_many} {kind} 1 0 {literals}"), expected)

    def test_no_clauses(self):
        every = numbers(1, 20)
        for blocks in ["1 0 e 1 0", "1 0 a 1 0", "2 0 a 2 0 e 1 0", f"20 0 e {every} 0", f"20 0 a {every} 0"]:
            self.assertEqual(truth("p cnf " + blocks), 1)

    def test_a_clause_without_literals(self):
        every = numbers(1, 20)
        for text in ["1 1 e 1 0 0", "1 1 a 1 0 0", "1 2 e 1 0 1 0 0", "1 2 e 1 0 0 1 0", "2 1 a 2 0 e 1 0 0",
                     f"20 1 e {every} 0 0", f"20 3 e {every} 0 1 0 0 2 0"]:
            self.assertEqual(truth("p cnf " + text), 0)

    def test_either_order_of_the_blocks(self):
        alike = "1 -2 0 -1 2 0"
        self.assertEqual(truth("p cnf 2 2 a 1 0 e 2 0 " + alike), 1)
        self.assertEqual(truth("p cnf 2 2 e 2 0 a 1 0 " + alike), 0)
        self.assertEqual(truth("p cnf 2 2 a 2 0 e 1 0 " + alike), 1)
        self.assertEqual(truth("p cnf 2 2 e 1 0 a 2 0 " + alike), 0)

    def test_the_order_is_not_that_of_the_numbers(self):
        # 3 has to be like 1, and 2 unlike 3: 3 may look at 1, and 2 at both.
        clauses = "1 -3 0 -1 3 0 2 3 0 -2 -3 0"
        self.assertEqual(truth("p cnf 3 4 a 1 0 e 3 2 0 " + clauses), 1)
        self.assertEqual(truth("p cnf 3 4 e 3 0 a 1 0 e 2 0 " + clauses), 0)
        self.assertEqual(truth("p cnf 3 4 a 3 0 e 2 1 0 " + clauses), 1)
        self.assertEqual(truth("p cnf 3 4 e 2 0 a 3 0 e 1 0 " + clauses), 0)
        self.assertEqual(truth("p cnf 3 4 a 2 0 e 1 3 0 " + clauses), 1)

    def test_the_order_within_a_block_does_not_matter(self):
        for first in itertools.permutations(["3", "1"]):
            for second in itertools.permutations(["4", "2"]):
                blocks = f"a {' '.join(first)} 0 e {' '.join(second)} 0"
                self.assertEqual(truth(f"p cnf 4 4 {blocks} 1 -2 0 -1 2 0 3 -4 0 -3 4 0"), 1)

    def test_two_blocks_of_one_kind_are_like_one(self):
        self.assertEqual(truth("p cnf 3 2 e 2 0 e 3 0 a 1 0 1 2 0 -1 3 0"), 1)
        self.assertEqual(truth("p cnf 3 1 a 2 0 a 3 0 e 1 0 2 3 0"), 0)

    def test_every_set_of_clauses_of_two_variables(self):
        clauses = clauses_of_two()
        for blocks in BLOCKS_OF_TWO:
            for kept in itertools.product([False, True], repeat=len(clauses)):
                chosen = [clause for clause, keep in zip(clauses, kept) if keep]
                self.assertEqual(truth(text_of(blocks, chosen)), told_truth(blocks, chosen), (blocks, chosen))

    def test_formulas_up_to_seven_variables(self):
        dice = random.Random(1)
        found = {0: 0, 1: 0}
        for k in range(1500):
            most = dice.randint(1, 7)
            blocks = some_blocks(dice, most)
            clauses = some_clauses(dice, most, dice.randint(0, 2 * most), 4)
            expected = told_truth(blocks, clauses)
            found[expected] = found[expected] + 1
            self.assertEqual(truth(text_of(blocks, clauses)), expected, (blocks, clauses))
        self.assertGreater(min(found.values()), 300)

    def test_formulas_of_nine_to_thirteen_variables(self):
        dice = random.Random(2)
        found = {0: 0, 1: 0}
        for k in range(60):
            most = 9 + k % 5
            blocks = some_blocks(dice, most)
            clauses = some_clauses(dice, most, dice.randint(2, 9), 6)
            expected = told_truth(blocks, clauses)
            found[expected] = found[expected] + 1
            self.assertEqual(truth(text_of(blocks, clauses)), expected, (blocks, clauses))
        self.assertGreater(min(found.values()), 8)


class Largest(unittest.TestCase):
    """Twenty variables, where the answer is known without trying all values."""

    def setUp(self):
        self.dice = random.Random(3)
        self.named = list(range(1, 21))
        self.dice.shuffle(self.named)

    def pairs(self, alike):
        """Clauses that make each two variables behind one another alike, or unlike."""
        clauses = []
        for one, other in zip(self.named[0::2], self.named[1::2]):
            clauses.extend([[one, -other], [-one, other]] if alike else [[one, other], [-one, -other]])
        return clauses

    def test_who_comes_later_follows(self):
        for alike in (True, False):
            for far in (False, True):
                pairs = list(zip(self.named[0::2], self.named[1::2]))
                blocks = ([("a", [one for one, other in pairs]), ("e", [other for one, other in pairs])] if far else
                          [block for one, other in pairs for block in [("a", [one]), ("e", [other])]])
                self.assertEqual(truth(text_of(blocks, self.pairs(alike))), 1)

    def test_one_who_comes_earlier_cannot_follow(self):
        pairs = list(zip(self.named[0::2], self.named[1::2]))
        for turned in range(10):
            blocks = []
            for k, (one, other) in enumerate(pairs):
                blocks.extend([("e", [other]), ("a", [one])] if k == turned else [("a", [one]), ("e", [other])])
            self.assertEqual(truth(text_of(blocks, self.pairs(True))), 0)

    def test_only_one_row_of_values(self):
        held = [variable * self.dice.choice((1, -1)) for variable in self.named]
        self.assertEqual(truth(text_of([("e", self.named)], [[literal] for literal in held])), 1)
        for k in range(20):
            blocks = [("e", self.named[:k])] if k else []
            blocks.append(("a", [self.named[k]]))
            if k < 19:
                blocks.append(("e", self.named[k + 1:]))
            self.assertEqual(truth(text_of(blocks, [[literal] for literal in held])), 0)

    def test_only_one_row_of_values_fails(self):
        clause = [variable * self.dice.choice((1, -1)) for variable in self.named]
        self.assertEqual(truth(text_of([("a", self.named)], [clause])), 0)
        for k in range(20):
            blocks = [("a", self.named[:k])] if k else []
            blocks.append(("e", [self.named[k]]))
            if k < 19:
                blocks.append(("a", self.named[k + 1:]))
            self.assertEqual(truth(text_of(blocks, [clause])), 1)

    def test_as_many_clauses_as_may_be(self):
        ten = self.named[:10]
        every = [[v if sign else -v for v, sign in zip(ten, signs)]
                 for signs in itertools.product([False, True], repeat=10)]
        self.assertEqual(truth(text_of([("a", self.named[10:]), ("e", ten)], every)), 0)
        one_left = every[:777] + every[778:]
        self.assertEqual(truth(text_of([("a", self.named[10:]), ("e", ten)], one_left)), 1)
        self.assertEqual(truth(text_of([("a", self.named[10:15]), ("e", ten), ("a", self.named[15:])], one_left)), 1)

    def test_many_calls(self):
        large = read(text_of([("e", self.named)], self.pairs(True) + [[v] for v in self.named]))
        calls = [BEGIN] + [large, TRUE] * 100 + [TRUE] * 99
        self.assertEqual(ask(*calls), [0] + [0, 1] * 100 + [1] * 99)


if __name__ == "__main__":
    unittest.main()
