"""Point 4: for how many values of the first block's variables a formula is true."""

import itertools
import random
import unittest

from helper import (BEGIN, BLOCKS_OF_TWO, WAYS, ask_about, ask_all, clauses_of_two, numbers, order_of, read, some_blocks,
                    some_clauses, text_of, true_of)


def told_ways(blocks, clauses):
    order = order_of(blocks)
    size = len(blocks[0][1])
    return sum(1 for values in itertools.product([0, 1], repeat=size) if true_of(list(values), order, clauses))


class Ways(unittest.TestCase):

    def each(self, cases):
        for text, expected in cases:
            with self.subTest(text=text[:80]):
                self.assertEqual(ask_about("p cnf " + text, WAYS), [[0, expected]])

    def as_told(self, blocks, clauses):
        expected = told_ways(blocks, clauses)
        self.assertEqual(ask_about(text_of(blocks, clauses), WAYS), [[0, expected]], (blocks, clauses))
        return expected

    def test_nothing_is_held(self):
        self.assertEqual(ask_all(BEGIN, WAYS, WAYS), [[0], [-3], [-3]])
        self.assertEqual(ask_all(BEGIN, read("p cnf 1 0 e 1"), WAYS), [[0], [7], [-3]])
        self.assertEqual(ask_all(BEGIN, read("p cnf 1 0 e 1 0"), WAYS, BEGIN, WAYS), [[0], [0], [0, 2], [0], [-3]])

    def test_a_first_block_of_one_variable(self):
        alike = "1 -2 0 -1 2 0"
        self.each([("2 2 e 1 0 a 2 0 " + alike, 0), ("2 2 a 1 0 e 2 0 " + alike, 2),
                   ("2 1 e 1 0 a 2 0 1 2 0", 1), ("2 1 a 1 0 e 2 0 1 0", 1), ("2 1 a 2 0 e 1 0 -2 0", 1),
                   ("2 1 e 2 0 a 1 0 1 0", 0), ("2 1 e 1 0 a 2 0 1 -2 0", 1)])

    def test_a_first_block_of_several_variables(self):
        self.each([("3 1 e 1 2 0 a 3 0 1 2 3 0", 3), ("3 1 a 1 2 0 e 3 0 1 2 3 0", 4), ("3 2 e 3 1 0 a 2 0 3 0 2 1 0", 1),
                   ("4 2 a 4 2 1 0 e 3 0 4 2 0 -1 3 0", 6), ("4 2 e 4 2 1 0 a 3 0 4 2 0 -1 3 0", 3),
                   ("4 2 a 4 2 1 0 a 3 0 3 0 -3 0", 0)])

    def test_the_first_block_is_the_first_alone(self):
        # Were the two blocks one, 3 would be counted.
        self.each([("2 1 e 1 0 e 2 0 1 2 0", 2), ("2 1 a 1 0 a 2 0 1 2 0", 1)])
        # Were they one, 1 would be counted.
        self.each([("2 2 e 1 0 e 2 0 1 0 2 0", 1), ("2 2 a 1 0 a 2 0 1 0 2 0", 0)])
        self.each([("2 0 e 2 0 e 1 0", 2), ("2 0 a 2 0 a 1 0", 2), ("3 1 e 1 2 0 e 3 0 3 0", 4),
                   ("3 1 a 1 0 a 2 3 0 1 0", 1), ("3 0 e 1 0 e 2 0 e 3 0", 2)])

    def test_a_first_block_of_all_the_variables(self):
        for kind in "ea":
            self.each([(f"1 0 {kind} 1 0", 2), (f"1 1 {kind} 1 0 1 0", 1), (f"1 1 {kind} 1 0 -1 0", 1),
                       (f"1 2 {kind} 1 0 1 0 -1 0", 0), (f"2 1 {kind} 2 1 0 1 2 0", 3), (f"2 2 {kind} 1 2 0 1 0 -2 0", 1),
                       (f"3 2 {kind} 3 1 2 0 1 -2 0 2 3 0", 4), (f"3 1 {kind} 3 1 2 0 1 -2 3 0", 7)])

    def test_no_clauses(self):
        self.each([("1 0 e 1 0", 2), ("1 0 a 1 0", 2), ("3 0 e 1 2 0 a 3 0", 4), ("3 0 a 1 2 0 e 3 0", 4),
                   ("3 0 a 3 2 1 0", 8), (f"20 0 e {numbers(1, 20)} 0", 1048576), (f"20 0 a {numbers(1, 20)} 0", 1048576)])

    def test_a_clause_without_literals(self):
        self.each([("1 1 e 1 0 0", 0), ("1 1 a 1 0 0", 0), ("2 2 e 1 0 a 2 0 1 2 0 0", 0), ("3 3 a 1 2 0 e 3 0 0 3 0 0", 0),
                   (f"20 1 e {numbers(1, 20)} 0 0", 0), (f"20 1 a {numbers(1, 20)} 0 0", 0)])

    def test_every_set_of_clauses_of_two_variables(self):
        clauses = clauses_of_two()
        for blocks in BLOCKS_OF_TWO + [[("e", [2]), ("e", [1])], [("a", [1]), ("a", [2])]]:
            for kept in itertools.product([False, True], repeat=len(clauses)):
                self.as_told(blocks, [clause for clause, keep in zip(clauses, kept) if keep])

    def test_formulas_up_to_seven_variables(self):
        dice = random.Random(4)
        found = set()
        for k in range(1500):
            most = dice.randint(1, 7)
            blocks = some_blocks(dice, most)
            clauses = some_clauses(dice, most, dice.randint(0, 2 * most), 4)
            found.add((blocks[0][0], self.as_told(blocks, clauses)))
        self.assertEqual(found, {(kind, ways) for kind in "ea" for ways in range(9)})

    def test_formulas_of_nine_to_twelve_variables(self):
        dice = random.Random(5)
        for k in range(24):
            most = 9 + k % 4
            variables = list(range(1, most + 1))
            dice.shuffle(variables)
            size = dice.randint(1, most)
            blocks = [(dice.choice("ea"), variables[:size])]
            if size < most:
                blocks.append((dice.choice("ea"), variables[size:]))
            self.as_told(blocks, some_clauses(dice, most, dice.randint(2, 9), 6))


class Largest(unittest.TestCase):
    """Twenty variables, where the number is known without trying all values."""

    def setUp(self):
        self.dice = random.Random(6)
        self.named = list(range(1, 21))
        self.dice.shuffle(self.named)

    def ways(self, blocks, clauses):
        (zero, number), = ask_about(text_of(blocks, clauses), WAYS)
        self.assertEqual(zero, 0)
        return number

    def test_all_twenty_are_counted(self):
        for kind in "ea":
            for size in range(1, 21):
                literals = [self.dice.choice((1, -1)) * variable for variable in self.dice.sample(self.named, size)]
                self.assertEqual(self.ways([(kind, self.named)], [literals]), 2 ** 20 - 2 ** (20 - size))
                self.assertEqual(self.ways([(kind, self.named)], [[v] for v in literals]), 2 ** (20 - size))

    def test_pairs(self):
        clauses = [pair for one, other in zip(self.named[0::2], self.named[1::2])
                   for pair in [[one, -other], [-one, other]]]
        self.assertEqual(self.ways([("e", self.named)], clauses), 1024)
        self.assertEqual(self.ways([("a", self.named)], clauses), 1024)
        ors = [[one, other] for one, other in zip(self.named[0::2], self.named[1::2])]
        self.assertEqual(self.ways([("e", self.named)], ors), 3 ** 10)
        self.assertEqual(self.ways([("a", self.named)], ors), 3 ** 10)

    def test_every_size_of_the_first_block(self):
        literals = [self.dice.choice((1, -1)) * variable for variable in self.named]
        for size in range(1, 20):
            first, rest = self.named[:size], self.named[size:]
            for kind in "ea":
                self.assertEqual(self.ways([(kind, first), ("e", rest)], [[v] for v in literals]), 1)
                self.assertEqual(self.ways([(kind, first), ("a", rest)], [[v] for v in literals]), 0)
                self.assertEqual(self.ways([(kind, first), ("e", rest)], [literals]), 2 ** size)
                self.assertEqual(self.ways([(kind, first), ("a", rest)], [literals]), 2 ** size - 1)

    def test_as_many_clauses_as_may_be(self):
        ten = self.named[:10]
        every = [[v if sign else -v for v, sign in zip(ten, signs)]
                 for signs in itertools.product([False, True], repeat=10)]
        self.assertEqual(self.ways([("e", self.named)], every), 0)
        self.assertEqual(self.ways([("e", self.named)], every[:321] + every[322:]), 1024)
        self.assertEqual(self.ways([("e", ten), ("a", self.named[10:])], every[:24]), 1000)


if __name__ == "__main__":
    unittest.main()
