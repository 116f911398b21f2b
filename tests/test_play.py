"""Point 5: with which value who's next has it their way."""

import itertools
import random
import unittest

from helper import (BEGIN, BLOCKS_OF_TWO, TRUE, ask, clauses_of_two, numbers, numbers_about, order_of, play, read,
                    some_blocks, some_clauses, text_of, true_of)


def told_play(values, order, clauses):
    if len(values) >= len(order) or any(value not in (0, 1) for value in values):
        return -2
    wanted = order[len(values)][0] == "e"
    fitting = [value for value in (0, 1) if true_of(list(values) + [value], order, clauses) == wanted]
    return fitting[0] + 2 if fitting else 0


def plays(text, rows):
    return numbers_about(text, [play(values) for values in rows])


class Play(unittest.TestCase):

    def each(self, cases):
        for text, values, expected in cases:
            with self.subTest(text=text[:80], values=values):
                self.assertEqual(plays("p cnf " + text, [values]), [expected])

    def test_nothing_is_held(self):
        self.assertEqual(ask(BEGIN, play([]), play([0]), play([2]), play([0] * 64)), [0, -3, -3, -3, -3])
        self.assertEqual(ask(BEGIN, read("p cnf 1 0 e 1"), play([])), [0, 7, -3])
        self.assertEqual(ask(BEGIN, read("p cnf 1 0 e 1 0"), play([]), BEGIN, play([]), play([7])), [0, 0, 2, 0, -3, -3])

    def test_some_with_no_values(self):
        self.each([("1 0 e 1 0", [], 2), ("1 1 e 1 0 -1 0", [], 2), ("1 1 e 1 0 1 0", [], 3),
                   ("1 2 e 1 0 1 0 -1 0", [], 0), ("1 1 e 1 0 0", [], 0)])

    def test_all_with_no_values(self):
        self.each([("1 0 a 1 0", [], 0), ("1 1 a 1 0 -1 0", [], 3), ("1 1 a 1 0 1 0", [], 2),
                   ("1 2 a 1 0 1 0 -1 0", [], 2), ("1 1 a 1 0 0", [], 2)])

    def test_some_behind_others(self):
        alike = "2 2 a 1 0 e 2 0 1 -2 0 -1 2 0"
        unlike = "2 2 a 1 0 e 2 0 1 2 0 -1 -2 0"
        self.each([(alike, [0], 2), (alike, [1], 3), (unlike, [0], 3), (unlike, [1], 2),
                   ("2 1 a 1 0 e 2 0 1 0", [0], 0), ("2 1 a 1 0 e 2 0 1 0", [1], 2)])

    def test_all_behind_others(self):
        alike = "2 2 e 1 0 a 2 0 1 -2 0 -1 2 0"
        unlike = "2 2 e 1 0 a 2 0 1 2 0 -1 -2 0"
        self.each([(alike, [0], 3), (alike, [1], 2), (unlike, [0], 2), (unlike, [1], 3),
                   ("2 1 e 1 0 a 2 0 1 0", [0], 2), ("2 1 e 1 0 a 2 0 1 0", [1], 0)])

    def test_it_is_asked_what_comes_behind_the_value(self):
        # 3 has to be like 2: that's so with either value of 2, but only where 3 comes later.
        alike = "2 -3 0 -2 3 0"
        self.each([("3 2 a 1 0 e 2 3 0 " + alike, [0], 2), ("3 2 e 1 2 0 a 3 0 " + alike, [0], 0),
                   ("3 2 e 1 0 a 2 0 e 3 0 " + alike, [1], 0), ("3 2 e 1 0 a 2 3 0 " + alike, [1], 2),
                   ("3 3 e 2 1 0 a 3 0 2 3 0 -2 1 0 2 -1 0", [], 3), ("3 3 a 2 1 0 e 3 0 2 3 0 -2 1 0 2 -1 0", [], 2)])

    def test_the_first_value_is_of_the_first_in_order(self):
        text = "3 3 e 3 1 2 0 3 0 -1 0 2 0"
        self.each([(text, [], 3), (text, [1], 2), (text, [1, 0], 3), (text, [0], 0), (text, [1, 1], 0), (text, [0, 0], 0)])
        text = "3 2 a 3 0 e 1 0 e 2 0 3 2 0 -3 -1 0"
        self.each([(text, [0], 2), (text, [1], 2), (text, [0, 0], 3), (text, [1, 0], 2), (text, [1, 1], 0), (text, [0, 1], 3)])

    def test_literals_with_and_without_minus(self):
        for kind, of_zero, of_one in [("e", "-{v} 0", "{v} 0"), ("a", "{v} 0", "-{v} 0")]:
            for variable in (1, 2, 3):
                others = " ".join(str(v) for v in (1, 2, 3) if v != variable)
                head = f"3 1 {kind} {others} 0 {kind} {variable} 0 "
                self.each([(head + of_zero.format(v=variable), [1, 0], 2), (head + of_one.format(v=variable), [0, 1], 3)])

    def test_as_many_values_as_variables_or_more(self):
        for kind in "ea":
            for most in (1, 2, 3, 10, 19, 20):
                text = f"p cnf {most} 0 {kind} {numbers(1, most)} 0"
                expected = 2 if kind == "e" else 0
                rows = [[bit] * m for m in range(65) for bit in (0, 1)]
                self.assertEqual(plays(text, rows), [expected if len(row) < most else -2 for row in rows])

    def test_one_below_v(self):
        self.each([("3 1 e 1 2 0 a 3 0 1 3 0", [0, 1], 2), ("3 1 e 1 2 0 a 3 0 1 3 0", [1, 1], 0),
                   ("3 1 e 1 2 3 0 1 3 0", [0, 1], 3), ("3 1 e 1 2 3 0 1 3 0", [1, 1], 2)])

    def test_values_that_are_none(self):
        text = f"p cnf 5 0 e {numbers(1, 5)} 0"
        rows = []
        for size in (1, 2, 3, 4, 5, 6, 20, 64):
            for place in range(size):
                for bad in (2, 3, 4, 48, 49, 127, 128, 254, 255):
                    row = [place % 2] * size
                    row[place] = bad
                    rows.append(row)
        self.assertEqual(plays(text, rows), [-2] * len(rows))

    def test_a_wrong_row_changes_nothing(self):
        self.assertEqual(ask(BEGIN, read("p cnf 2 1 e 1 0 a 2 0 1 0"), play([0, 0]), play([7]), play([]), play([0]), TRUE),
                         [0, 0, -2, -2, 3, 2, 1])

    def test_every_set_of_clauses_of_two_variables(self):
        clauses = clauses_of_two()
        rows = [[], [0], [1]]
        for blocks in BLOCKS_OF_TWO:
            for kept in itertools.product([False, True], repeat=len(clauses)):
                chosen = [clause for clause, keep in zip(clauses, kept) if keep]
                expected = [told_play(row, order_of(blocks), chosen) for row in rows]
                self.assertEqual(plays(text_of(blocks, chosen), rows), expected, (blocks, chosen))

    def test_formulas_up_to_six_variables(self):
        dice = random.Random(7)
        found = set()
        for k in range(150):
            most = dice.randint(1, 6)
            blocks = some_blocks(dice, most)
            clauses = some_clauses(dice, most, dice.randint(0, 2 * most), 4)
            order = order_of(blocks)
            rows = [list(values) for m in range(most + 1) for values in itertools.product([0, 1], repeat=m)]
            expected = [told_play(row, order, clauses) for row in rows]
            self.assertEqual(plays(text_of(blocks, clauses), rows), expected, (blocks, clauses))
            found.update((order[len(row)][0], answer) for row, answer in zip(rows, expected) if len(row) < most)
        self.assertEqual(found, {(kind, answer) for kind in "ea" for answer in (0, 2, 3)})

    def test_formulas_of_nine_to_twelve_variables(self):
        dice = random.Random(8)
        for k in range(24):
            most = 9 + k % 4
            blocks = some_blocks(dice, most)
            clauses = some_clauses(dice, most, dice.randint(2, 9), 6)
            rows = [[dice.choice((0, 1)) for bit in range(m)] for m in range(most + 1)]
            expected = [told_play(row, order_of(blocks), clauses) for row in rows]
            self.assertEqual(plays(text_of(blocks, clauses), rows), expected, (blocks, clauses))


class Largest(unittest.TestCase):
    """Twenty variables, where the answer is known without trying all values."""

    def setUp(self):
        self.dice = random.Random(9)
        self.named = list(range(1, 21))
        self.dice.shuffle(self.named)

    def follows(self, kind, clauses, values):
        """Who's next has it their way with these values alone."""
        text = text_of([(kind, self.named)], clauses)
        self.assertEqual(plays(text, [values[:m] for m in range(20)]), [value + 2 for value in values])
        for wrong in range(19):
            begun = values[:wrong] + [1 - values[wrong]]
            rows = [begun + values[wrong + 1:m] for m in range(wrong + 1, 20)]
            self.assertEqual(plays(text, rows), [0] * len(rows))

    def test_one_row_of_values_to_its_end(self):
        values = [self.dice.choice((0, 1)) for variable in self.named]
        holding = [variable if value else -variable for variable, value in zip(self.named, values)]
        self.follows("e", [[literal] for literal in holding], values)
        self.follows("a", [[-literal for literal in holding]], values)

    def test_pairs(self):
        pairs = list(zip(self.named[0::2], self.named[1::2]))
        clauses = [clause for one, other in pairs for clause in [[one, -other], [-one, other]]]
        text = text_of([block for one, other in pairs for block in [("a", [one]), ("e", [other])]], clauses)
        for k in range(30):
            values = []
            expected = []
            while len(values) < 20:
                bit = self.dice.choice((0, 1))
                values.extend([bit, bit])
                expected.extend([0, bit + 2])
            self.assertEqual(plays(text, [values[:m] for m in range(20)]), expected)


if __name__ == "__main__":
    unittest.main()
