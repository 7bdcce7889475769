"""How calls are handed in and answers given back, and what stands behind the list of calls."""

import contextlib
import io
import unittest

from countedcolours.places import answers

SQUARE = [0, 1, 4, 0,  1, 4, 1, 2, 3, 0, 0,  2, 0, 0,  3, 0, 0,  4, 0, 0,  5, 1, 3, 0]
SQUARE_ANSWERS = [
    1, 4,
    1, 4,
    17, 4, 0, 1, 2, 3, 1, 2, 3, 0, 2, 3, 0, 1, 3, 0, 1, 2,
    6, 1, 4, 0, 1, 2, 3,
    16, 3, 1, 4, 0, 0, 0, 1, 0, 2, 0, 0, 2, 0, 0, 0, 1,
    1, 24,
]


class TheWholeList(unittest.TestCase):
    def test_each_call_alone_on_the_one_place_at_the_beginning(self):
        self.assertEqual(answers([0, 1, 3, 0]), [1, 3])
        self.assertEqual(answers([1, 1, 0, 0]), [1, 1])
        self.assertEqual(answers([2, 0, 0]), [2, 1, 0])
        self.assertEqual(answers([3, 0, 0]), [3, 1, 1, 0])
        self.assertEqual(answers([4, 0, 0]), [3, 1, 1, 1])
        self.assertEqual(answers([5, 1, 7, 0]), [1, 7])

    def test_all_six_calls_in_one_list(self):
        self.assertEqual(answers(list(SQUARE)), SQUARE_ANSWERS)

    def test_a_refusal_is_its_number_alone_and_the_next_call_is_answered(self):
        calls = [0, 1, 2, 0,  0, 1, 11, 0,  1, 2, 0, 0, 0,  1, 0, 0,  5, 1, -1, 0,  1, 2, 1, 0, 0,  2, 0, 0]
        self.assertEqual(answers(calls), [1, 2, 1, -1, 1, -1, 1, -1, 1, -1, 1, 2, 5, 2, 0, 1, 1, 0])

    def test_forty_calls(self):
        self.assertEqual(answers([0, 1, 10, 0] + [5, 1, 2, 0] * 39), [1, 10] + [1, 1024] * 39)
        turns = [1, 10, 1, 2, 3, 4, 5, 6, 7, 8, 9, 0, 0] * 39
        self.assertEqual(answers([0, 1, 10, 0] + turns), [1, 10] + [1, 10] * 39)


class WhatStandsBehind(unittest.TestCase):
    def test_the_list_handed_in_is_the_same_behind_the_call(self):
        calls = list(SQUARE)
        answers(calls)
        self.assertEqual(calls, SQUARE)

    def test_the_list_handed_in_is_not_changed_for_a_while_either(self):
        class Unchanging(list):
            def refuse(self, *arguments, **named):
                raise AssertionError("what is handed in was changed")

            __setitem__ = __delitem__ = __iadd__ = __imul__ = refuse
            append = extend = insert = pop = remove = clear = sort = reverse = refuse

        self.assertEqual(answers(Unchanging(SQUARE)), SQUARE_ANSWERS)

    def test_nothing_is_kept_from_one_time_to_the_next(self):
        first = answers(list(SQUARE))
        self.assertEqual(answers([2, 0, 0, 3, 0, 0]), [2, 1, 0, 3, 1, 1, 0])
        again = answers(list(SQUARE))
        self.assertEqual(first, SQUARE_ANSWERS)
        self.assertEqual(again, SQUARE_ANSWERS)
        self.assertIsNot(first, again)

    def test_what_is_given_back_is_the_callers_own(self):
        answers(list(SQUARE)).clear()
        self.assertEqual(answers(list(SQUARE)), SQUARE_ANSWERS)

    def test_the_answers_are_a_list_of_whole_numbers(self):
        given = answers(list(SQUARE) + [5, 1, 0, 0, 5, 1, 1001, 0, 0, 1, 0, 0, 1, 0, 0])
        self.assertIs(type(given), list)
        self.assertEqual({type(number) for number in given}, {int})

    def test_nothing_is_printed(self):
        out, err = io.StringIO(), io.StringIO()
        with contextlib.redirect_stdout(out), contextlib.redirect_stderr(err):
            answers(list(SQUARE))
        self.assertEqual((out.getvalue(), err.getvalue()), ("", ""))


if __name__ == "__main__":
    unittest.main()
