"""Point 1, what is held (points 2 and 3), and the interface."""

import contextlib
import io
import unittest

from helper import BEGIN, TRUE, ask, read
from someall.book import answers

YES = "p cnf 1 0 e 1 0"
NO = "p cnf 1 1 e 1 0 0"
WRONG = "p cnf 1 1 e 1 0 2 0"


class Begin(unittest.TestCase):

    def test_answers_0(self):
        self.assertEqual(answers([0]), [1, 0])

    def test_again_and_again(self):
        self.assertEqual(answers([0, 0, 0]), [1, 0, 1, 0, 1, 0])

    def test_in_the_midst_nothing_is_held_from_there_on(self):
        self.assertEqual(
            ask(BEGIN, read(YES), TRUE, BEGIN, TRUE, read(NO), TRUE, BEGIN, TRUE),
            [0, 0, 1, 0, -3, 0, 0, 0, -3])

    def test_behind_a_begin_a_wrong_text_brings_nothing_back(self):
        self.assertEqual(ask(BEGIN, read(YES), BEGIN, read(WRONG), TRUE), [0, 0, 0, 8, -3])


class Held(unittest.TestCase):

    def test_nothing_before_any_text(self):
        self.assertEqual(ask(BEGIN, TRUE), [0, -3])

    def test_nothing_after_a_wrong_text_alone(self):
        self.assertEqual(ask(BEGIN, read(WRONG), TRUE, read(""), TRUE), [0, 8, -3, 1, -3])

    def test_a_wrong_text_leaves_what_was_held(self):
        self.assertEqual(ask(BEGIN, read(YES), read(WRONG), TRUE), [0, 0, 8, 1])
        self.assertEqual(ask(BEGIN, read(NO), read(WRONG), TRUE), [0, 0, 8, 0])

    def test_a_wrong_text_leaves_it_also_once_it_was_asked_about(self):
        self.assertEqual(ask(BEGIN, read(YES), TRUE, read(WRONG), TRUE), [0, 0, 1, 8, 1])
        self.assertEqual(ask(BEGIN, read(NO), TRUE, read(WRONG), TRUE), [0, 0, 0, 8, 0])

    def test_a_text_wrong_only_behind_its_end_leaves_what_was_held(self):
        self.assertEqual(ask(BEGIN, read(YES), read(NO + " 0"), TRUE), [0, 0, 9, 1])

    def test_a_text_as_told_is_held_instead(self):
        self.assertEqual(ask(BEGIN, read(YES), read(NO), TRUE), [0, 0, 0, 0])
        self.assertEqual(ask(BEGIN, read(NO), read(YES), TRUE), [0, 0, 0, 1])

    def test_a_text_as_told_is_held_instead_also_once_the_other_was_asked_about(self):
        self.assertEqual(ask(BEGIN, read(YES), TRUE, read(NO), TRUE, read(YES), TRUE), [0, 0, 1, 0, 0, 0, 1])

    def test_asking_changes_nothing(self):
        self.assertEqual(ask(BEGIN, read(YES), *[TRUE] * 298), [0, 0] + [1] * 298)


class Interface(unittest.TestCase):

    CALLS = BEGIN + TRUE + read(YES) + TRUE + read(WRONG) + TRUE + read(NO) + TRUE + BEGIN + TRUE
    GIVEN = [1, 0, 1, -3, 1, 0, 1, 1, 1, 8, 1, 1, 1, 0, 1, 0, 1, 0, 1, -3]

    def test_how_the_answers_lie(self):
        self.assertEqual(answers(list(self.CALLS)), self.GIVEN)

    def test_a_list_of_whole_numbers_is_given_back(self):
        given = answers(list(self.CALLS))
        self.assertIs(type(given), list)
        self.assertEqual({type(number) for number in given}, {int})

    def test_what_is_handed_in_is_not_changed(self):
        calls = list(self.CALLS)
        answers(calls)
        self.assertEqual(calls, self.CALLS)

    def test_not_for_a_while_either(self):
        class Watched(list):
            def refuse(self, *given):
                raise AssertionError("what is handed in was changed")
            __setitem__ = __delitem__ = __iadd__ = __imul__ = refuse
            append = clear = extend = insert = pop = remove = reverse = sort = refuse

        self.assertEqual(answers(Watched(self.CALLS)), self.GIVEN)

    def test_the_same_list_twice_gives_the_same(self):
        calls = list(self.CALLS)
        self.assertEqual(answers(calls), self.GIVEN)
        self.assertEqual(answers(calls), self.GIVEN)

    def test_nothing_is_kept_from_one_list_to_the_next(self):
        self.assertEqual(ask(BEGIN, read(YES), TRUE), [0, 0, 1])
        self.assertEqual(ask(BEGIN, TRUE), [0, -3])

    def test_what_is_given_back_is_new_each_time(self):
        answers([0]).append(7)
        self.assertEqual(answers([0]), [1, 0])

    def test_nothing_is_printed(self):
        printed = io.StringIO()
        with contextlib.redirect_stdout(printed), contextlib.redirect_stderr(printed):
            answers(list(self.CALLS))
        self.assertEqual(printed.getvalue(), "")

    def test_numbers_in_a_text_are_not_taken_for_calls(self):
        self.assertEqual(answers([0, 1, 3, 0, 2, 0, 2]), [1, 0, 1, 1, 1, -3])

    def test_an_empty_text_between_other_calls(self):
        self.assertEqual(answers([0, 1, 0, 2, 1, 0, 0]), [1, 0, 1, 1, 1, -3, 1, 1, 1, 0])

    def test_the_longest_list(self):
        text = YES + " " * (59000 - len(YES))
        calls = BEGIN + read(text) + TRUE * 298
        self.assertEqual(answers(calls), [1, 0, 1, 0] + [1, 1] * 298)


if __name__ == "__main__":
    unittest.main()
