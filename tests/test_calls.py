"""Point 1, what is held (points 2 to 6), and the interface."""

import contextlib
import io
import itertools
import random
import unittest

from helper import BEGIN, TRUE, WAYS, ask, ask_all, play, proof, read, text_of
from someall.book import answers

YES = "p cnf 1 0 e 1 0"
NO = "p cnf 1 1 e 1 0 0"
WRONG = "p cnf 1 1 e 1 0 2 0"

# Each call that asks about what is held, and what it answers of YES and of NO.
ASKING = [TRUE, WAYS, play([]), play([0]), play([2]), proof("u 1"), proof("")]
OF_YES = [[1], [0, 2], [2], [-2], [-2], [2], [1]]
OF_NO = [[0], [0, 0], [0], [-2], [-2], [0], [1]]
OF_NOTHING = [[-3]] * 7


class Begin(unittest.TestCase):

    def test_answers_0(self):
        self.assertEqual(answers([0]), [1, 0])

    def test_again_and_again(self):
        self.assertEqual(answers([0, 0, 0]), [1, 0, 1, 0, 1, 0])

    def test_in_the_midst_nothing_is_held_from_there_on(self):
        self.assertEqual(
            ask(BEGIN, read(YES), TRUE, BEGIN, TRUE, read(NO), TRUE, BEGIN, TRUE),
            [0, 0, 1, 0, -3, 0, 0, 0, -3])

    def test_behind_a_begin_a_wrong_text_brings_nothing_back(self):
        self.assertEqual(ask(BEGIN, read(YES), BEGIN, read(WRONG), TRUE), [0, 0, 0, 8, -3])


class Held(unittest.TestCase):

    def test_nothing_before_any_text(self):
        self.assertEqual(ask(BEGIN, TRUE), [0, -3])

    def test_nothing_after_a_wrong_text_alone(self):
        self.assertEqual(ask(BEGIN, read(WRONG), TRUE, read(""), TRUE), [0, 8, -3, 1, -3])

    def test_a_wrong_text_leaves_what_was_held(self):
        self.assertEqual(ask(BEGIN, read(YES), read(WRONG), TRUE), [0, 0, 8, 1])
        self.assertEqual(ask(BEGIN, read(NO), read(WRONG), TRUE), [0, 0, 8, 0])

    def test_a_wrong_text_leaves_it_also_once_it_was_asked_about(self):
        self.assertEqual(ask(BEGIN, read(YES), TRUE, read(WRONG), TRUE), [0, 0, 1, 8, 1])
        self.assertEqual(ask(BEGIN, read(NO), TRUE, read(WRONG), TRUE), [0, 0, 0, 8, 0])

    def test_a_text_wrong_only_behind_its_end_leaves_what_was_held(self):
        self.assertEqual(ask(BEGIN, read(YES), read(NO + " 0"), TRUE), [0, 0, 9, 1])

    def test_a_text_as_told_is_held_instead(self):
        self.assertEqual(ask(BEGIN, read(YES), read(NO), TRUE), [0, 0, 0, 0])
        self.assertEqual(ask(BEGIN, read(NO), read(YES), TRUE), [0, 0, 0, 1])

    def test_a_text_as_told_is_held_instead_also_once_the_other_was_asked_about(self):
        self.assertEqual(ask(BEGIN, read(YES), TRUE, read(NO), TRUE, read(YES), TRUE), [0, 0, 1, 0, 0, 0, 1])

    def test_asking_changes_nothing(self):
        self.assertEqual(ask(BEGIN, read(YES), *[TRUE] * 298), [0, 0] + [1] * 298)


class HeldByEachCall(unittest.TestCase):

    def test_nothing_before_any_text(self):
        self.assertEqual(ask_all(BEGIN, *ASKING), [[0]] + OF_NOTHING)
        self.assertEqual(ask_all(BEGIN, read(WRONG), *ASKING), [[0], [8]] + OF_NOTHING)

    def test_nothing_behind_a_begin_in_the_midst(self):
        for text, told in [(YES, OF_YES), (NO, OF_NO)]:
            self.assertEqual(ask_all(BEGIN, read(text), *ASKING, BEGIN, *ASKING, read(text), *ASKING),
                             [[0], [0]] + told + [[0]] + OF_NOTHING + [[0]] + told)

    def test_a_wrong_text_leaves_what_was_held(self):
        for text, told in [(YES, OF_YES), (NO, OF_NO)]:
            self.assertEqual(ask_all(BEGIN, read(text), read(WRONG), *ASKING), [[0], [0], [8]] + told)
            self.assertEqual(ask_all(BEGIN, read(text), *ASKING, read(WRONG), *ASKING), [[0], [0]] + told + [[8]] + told)

    def test_a_text_as_told_is_held_instead(self):
        self.assertEqual(ask_all(BEGIN, read(YES), *ASKING, read(NO), *ASKING, read(YES), *ASKING),
                         [[0], [0]] + OF_YES + [[0]] + OF_NO + [[0]] + OF_YES)

    def test_no_call_changes_what_is_held(self):
        # In whatever order two of them come, each answers what it answers by itself.
        for text, told in [(YES, OF_YES), (NO, OF_NO)]:
            for one, other in itertools.product(range(len(ASKING)), repeat=2):
                self.assertEqual(ask_all(BEGIN, read(text), ASKING[one], ASKING[other], ASKING[one]),
                                 [[0], [0], told[one], told[other], told[one]])

    def test_a_proof_adds_no_clauses(self):
        text = "p cnf 2 2 e 1 0 a 2 0 1 2 0 -1 -2 0"
        self.assertEqual(
            ask(BEGIN, read(text), proof("u 1 u 2 r 3 4 1"), proof("u 3"), proof("r 3 4 1"), proof("u 1 u 2 u 5"),
                proof("u 1 u 2 r 3 4 1"), TRUE),
            [0, 0, 0, 2, 2, 6, 0, 0])

    def test_a_wrong_proof_changes_nothing(self):
        text = "p cnf 1 1 e 1 0 1 0"
        self.assertEqual(ask_all(BEGIN, read(text), proof("u 1 u 2 u x"), proof("u 2"), WAYS, play([]), TRUE),
                         [[0], [0], [6], [2], [0, 1], [3], [1]])


class Interface(unittest.TestCase):

    CALLS = (BEGIN + TRUE + WAYS + play([0]) + proof("u 1") + read(YES) + TRUE + WAYS + play([]) + read(WRONG) + TRUE
             + play([1, 2]) + proof("u 0") + read(NO) + TRUE + WAYS + play([]) + proof("u 1") + BEGIN + WAYS + TRUE)
    GIVEN = ([1, 0, 1, -3, 1, -3, 1, -3, 1, -3, 1, 0, 1, 1, 2, 0, 2, 1, 2, 1, 8, 1, 1]
             + [1, -2, 1, 2, 1, 0, 1, 0, 2, 0, 0, 1, 0, 1, 0, 1, 0, 1, -3, 1, -3])

    def test_how_the_answers_lie(self):
        self.assertEqual(answers(list(self.CALLS)), self.GIVEN)

    def test_a_list_of_whole_numbers_is_given_back(self):
        given = answers(list(self.CALLS))
        self.assertIs(type(given), list)
        self.assertEqual({type(number) for number in given}, {int})

    def test_what_is_handed_in_is_not_changed(self):
        calls = list(self.CALLS)
        answers(calls)
        self.assertEqual(calls, self.CALLS)

    def test_not_for_a_while_either(self):
        class Watched(list):
            def refuse(self, *given):
                raise AssertionError("what is handed in was changed")
            __setitem__ = __delitem__ = __iadd__ = __imul__ = refuse
            append = clear = extend = insert = pop = remove = reverse = sort = refuse

        self.assertEqual(answers(Watched(self.CALLS)), self.GIVEN)

    def test_the_same_list_twice_gives_the_same(self):
        calls = list(self.CALLS)
        self.assertEqual(answers(calls), self.GIVEN)
        self.assertEqual(answers(calls), self.GIVEN)

    def test_nothing_is_kept_from_one_list_to_the_next(self):
        self.assertEqual(ask(BEGIN, read(YES), TRUE), [0, 0, 1])
        self.assertEqual(ask(BEGIN, TRUE), [0, -3])

    def test_what_is_given_back_is_new_each_time(self):
        answers([0]).append(7)
        self.assertEqual(answers([0]), [1, 0])

    def test_nothing_is_printed(self):
        printed = io.StringIO()
        with contextlib.redirect_stdout(printed), contextlib.redirect_stderr(printed):
            answers(list(self.CALLS))
        self.assertEqual(printed.getvalue(), "")

    def test_numbers_in_a_text_are_not_taken_for_calls(self):
        self.assertEqual(answers([0, 1, 3, 0, 2, 0, 2]), [1, 0, 1, 1, 1, -3])
        self.assertEqual(answers([0, 4, 3, 0, 3, 0, 3]), [1, 0, 1, -3, 1, -3])
        self.assertEqual(answers([0, 5, 5, 0, 1, 3, 4, 5, 2]), [1, 0, 1, -3, 1, -3])

    def test_an_empty_row_between_other_calls(self):
        self.assertEqual(answers([0, 1, 0, 2, 1, 0, 0]), [1, 0, 1, 1, 1, -3, 1, 1, 1, 0])
        self.assertEqual(answers([0, 4, 0, 2, 5, 0, 3]), [1, 0, 1, -3, 1, -3, 1, -3, 1, -3])
        self.assertEqual(answers(BEGIN + read(YES) + [4, 0, 2, 5, 0, 3]), [1, 0, 1, 0, 1, 2, 1, 1, 1, 1, 2, 0, 2])

    def test_the_longest_list(self):
        text = YES + " " * (59000 - len(YES))
        calls = BEGIN + read(text) + TRUE * 298
        self.assertEqual(answers(calls), [1, 0, 1, 0] + [1, 1] * 298)


class ManyCalls(unittest.TestCase):
    """Lists of 300 calls, about formulas as large as they may be."""

    def setUp(self):
        self.dice = random.Random(12)
        self.named = list(range(1, 21))
        self.dice.shuffle(self.named)

    def test_twenty_variables(self):
        # Each of the first ten is followed by one that has to be like it.
        first, second = self.named[:10], self.named[10:]
        clauses = [clause for one, other in zip(first, second) for clause in [[one, -other], [-one, other]]]
        calls, told = [BEGIN, read(text_of([("a", first), ("e", second)], clauses))], [[0], [0]]
        while len(calls) < 300:
            values = [self.dice.choice((0, 1)) for variable in first]
            later = self.dice.randrange(10)
            calls.extend([TRUE, WAYS, play(values[:later]), play(values + values[:later]), proof("u 1 r 21 2 1"),
                          play(values + values)])
            told.extend([[1], [0, 1024], [0], [values[later] + 2], [6], [-2]])
        self.assertEqual(ask_all(*calls[:300]), told[:300])

    def test_1024_clauses(self):
        # Every clause of the ten, but one: its values are the only ones with which all hold.
        ten = self.named[:10]
        every = [[v if sign else -v for v, sign in zip(ten, signs)]
                 for signs in itertools.product([False, True], repeat=10)]
        left_out = every.pop(700)
        values = [0 if literal > 0 else 1 for literal in left_out]
        text = text_of([("e", ten), ("a", self.named[10:])], every + [[-left_out[0]]])
        self.assertLess(len(text), 40000)
        calls, told = [BEGIN, read(text)], [[0], [0]]
        while len(calls) < 300:
            m = self.dice.randrange(10)
            turned = values[:m] + [1 - values[m]]
            calls.extend([play(values[:m]), play(turned), TRUE, WAYS, proof("u 1024 u 1025 u 1027"), play(values)])
            # Behind all ten, all is next: it has its way with either value.
            told.extend([[values[m] + 2], [0] if m < 9 else [2], [1], [0, 1], [6], [0]])
        self.assertEqual(ask_all(*calls[:300]), told[:300])

    def test_many_texts(self):
        calls, told = [BEGIN], [[0]]
        while len(calls) < 299:
            literals = [variable * self.dice.choice((1, -1)) for variable in self.dice.sample(self.named, 5)]
            calls.extend([read(text_of([("e", self.named)], [literals])), WAYS])
            told.extend([[0], [0, 2 ** 20 - 2 ** 15]])
        self.assertLess(sum(len(call) for call in calls), 60000)
        self.assertEqual(ask_all(*calls), told)


if __name__ == "__main__":
    unittest.main()
