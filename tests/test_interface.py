"""How calls are handed in and answers given back, and what stands behind the list of calls."""

import contextlib
import io
import itertools
import time
import unittest

from countedcolours.places import answers
from lines import (
    FAR_OUT, GROUP, KINDS, ORBITS, TWO_HUNDRED, alike, answered, by, count, first, listed, member, places, turn)

# All eleven calls, on a square that may be turned.
SQUARE = [
    0, 1, 4, 0,
    1, 4, 1, 2, 3, 0, 0,
    2, 0, 0,
    3, 0, 0,
    4, 0, 0,
    5, 1, 3, 0,
    6, 2, 2, 2, 0,
    7, 4, 1, 0, 0, 1, 0,
    8, 2, 2, 3, 0,
    9, 0, 2, 4, 1, 2, 3, 4, 4, 4, 1, 2, 3,
    9, 0, 2, 4, 0, 0, 0, 1, 4, 0, 0, 1, 1,
    10, 4, 2, 3, 0, 1, 0,
]
SQUARE_ANSWERS = [
    1, 4,
    1, 4,
    17, 4, 0, 1, 2, 3, 1, 2, 3, 0, 2, 3, 0, 1, 3, 0, 1, 2,
    6, 1, 4, 0, 1, 2, 3,
    16, 3, 1, 4, 0, 0, 0, 1, 0, 2, 0, 0, 2, 0, 0, 0, 1,
    1, 24,
    1, 2,
    6, 1, 4, 0, 0, 1, 1,
    4, 0, 1, 0, 1,
    5, 1, 1, 2, 3, 0,
    1, 0,
    2, 1, 2,
]


class TheWholeList(unittest.TestCase):
    def test_each_call_alone_on_the_one_place_at_the_beginning(self):
        self.assertEqual(answers([0, 1, 3, 0]), [1, 3])
        self.assertEqual(answers([1, 1, 0, 0]), [1, 1])
        self.assertEqual(answers([2, 0, 0]), [2, 1, 0])
        self.assertEqual(answers([3, 0, 0]), [3, 1, 1, 0])
        self.assertEqual(answers([4, 0, 0]), [3, 1, 1, 1])
        self.assertEqual(answers([5, 1, 7, 0]), [1, 7])
        self.assertEqual(answers([6, 1, 1, 0]), [1, 1])
        self.assertEqual(answers([7, 1, 6, 0]), [3, 1, 1, 6])
        self.assertEqual(answers([8, 2, 3, 2, 0]), [1, 2])
        self.assertEqual(answers([9, 0, 2, 1, 8, 1, 8]), [2, 1, 0])
        self.assertEqual(answers([9, 0, 2, 1, 8, 1, 7]), [1, 0])
        self.assertEqual(answers([10, 1, 0, 0]), [2, 1, 1])

    def test_numbers_that_are_none(self):
        self.assertEqual(
            answers([1, 0, 0,  6, 0, 0,  7, 0, 0,  9, 0, 2, 0, 0,  10, 0, 0,  9, 0, 2, 1, 3, 0,  9, 0, 2, 0, 1, 3]),
            [1, -1] * 7)

    def test_numbers_that_look_like_calls(self):
        self.assertEqual(
            answers([9, 0, 2, 3, 2, 0, 0, 4, 9, 0, 2, 0,  7, 3, 3, 0, 0, 0,  6, 5, 0, 1, 9, 0, 9, 0,  2, 0, 0]),
            [1, -1, 1, -1, 1, 0, 2, 1, 0])

    def test_all_eleven_calls_in_one_list(self):
        self.assertEqual(answers(list(SQUARE)), SQUARE_ANSWERS)

    def test_a_refusal_is_its_number_alone_and_the_next_call_is_answered(self):
        calls = [0, 1, 2, 0,  0, 1, 11, 0,  1, 2, 0, 0, 0,  1, 0, 0,  5, 1, -1, 0,  1, 2, 1, 0, 0,  2, 0, 0]
        self.assertEqual(answers(calls), [1, 2, 1, -1, 1, -1, 1, -1, 1, -1, 1, 2, 5, 2, 0, 1, 1, 0])

    def test_forty_calls(self):
        self.assertEqual(answers([0, 1, 10, 0] + [5, 1, 2, 0] * 39), [1, 10] + [1, 1024] * 39)
        turns = [1, 10, 1, 2, 3, 4, 5, 6, 7, 8, 9, 0, 0] * 39
        self.assertEqual(answers([0, 1, 10, 0] + turns), [1, 10] + [1, 10] * 39)


class Mixed(unittest.TestCase):
    ROUND = turn(1, 2, 3, 4, 5, 0)
    ASKED = (
        (GROUP, [6, 0, 1, 2, 3, 4, 5, 1, 2, 3, 4, 5, 0, 2, 3, 4, 5, 0, 1,
                 3, 4, 5, 0, 1, 2, 4, 5, 0, 1, 2, 3, 5, 0, 1, 2, 3, 4]),
        (ORBITS, [1, 6, 0, 1, 2, 3, 4, 5]),
        (KINDS, [4, 1, 6, 0, 0, 0, 0, 0, 1, 0, 3, 0, 0, 0, 0, 2, 0, 0, 2, 0, 0, 0, 2, 0, 0, 0, 0, 0, 1]),
        (count(2), [14]),
        (by(3, 3), [4]),
        (first(1, 0, 0, 1, 0, 0), [2, 3, 0, 0, 1, 0, 0, 1]),
        (alike((0, 0, 0, 1, 1, 2), (1, 1, 2, 0, 0, 0)), [1, 3, 4, 5, 0, 1, 2]),
        (alike((0, 0, 0, 1, 1, 2), (1, 2, 1, 0, 0, 0)), [0]),
        (member(2, 3, 4, 5, 0, 1), [1, 3]),
        (member(1, 0, 2, 3, 4, 5), [0, 2]),
        (listed(2, 13), [1, 1, 1, 1, 1, 1]),
    )
    REFUSED = (
        (places(0), [-1]), (places(11), [-1]), (turn(0, 1, 2, 3, 4, 4), [-1]), (turn(1, 0, 2, 3, 4, 5), [-2]),
        (count(-1), [-1]), (count(1001), [-1]), (by(), [-1]), (by(7, -1), [-1]), (first(0, 1, 2), [-1]),
        (first(0, 1, 2, 3, 4, 10), [-1]), (alike((), ()), [-1]), (alike([0] * 6, [-1] * 6), [-1]),
        (member(1, 2, 3, 4, 5, 6), [-1]), (listed(4, 0), [-1]), (listed(2, -1), [-1]), (listed(2, 14), [-3]),
    )

    def test_all_is_as_it_was_behind_each_refusal(self):
        for (refused, refusal), (asked, answer) in itertools.product(self.REFUSED, self.ASKED):
            self.assertEqual(answered(places(6), self.ROUND, refused, asked)[2:], [refusal, answer])

    def test_each_call_behind_each_other_one(self):
        for (one, its_answer), (other, others_answer) in itertools.product(self.ASKED, repeat=2):
            self.assertEqual(
                answered(places(6), self.ROUND, one, other, one)[2:], [its_answer, others_answer, its_answer])

    def test_all_with_refusals_between(self):
        refused = [pair for pair in self.REFUSED if pair[0][0] != 8]
        asked = [*self.ASKED, (turn(*range(6)), [6])]
        mixed = [pair for both in zip(itertools.cycle(refused), asked) for pair in both]
        self.assertEqual(
            answered(places(6), self.ROUND, *[call for call, answer in mixed])[2:], [answer for call, answer in mixed])

    def test_places_anew_behind_all(self):
        calls = [call for call, answer in self.ASKED if call[0] != 8]
        self.assertEqual(
            answered(places(6), self.ROUND, *calls, places(2), GROUP, ORBITS, KINDS, count(2), by(1, 1), first(1, 0),
                     alike((0, 1), (1, 0)), member(1, 0), turn(1, 2, 3, 4, 5, 0), listed(2, 2))[len(calls) + 2:],
            [[2], [1, 0, 1], [2, 1, 0, 1, 1], [1, 1, 2, 0], [4], [2], [1, 1, 1, 0], [0], [0, 2], [-1], [1, 0]])

    def test_too_many_steps_between(self):
        self.assertEqual(
            answered(*TWO_HUNDRED, listed(2, 0), by(9, 1), listed(3, FAR_OUT[1]), count(2), listed(1, 0))[4:],
            [[-5], [1], [-5], [36], [0] * 10])


class LongLists(unittest.TestCase):
    """Lists as long as they may be, with the calls that take most steps."""

    def within_seconds(self, *calls):
        start = time.perf_counter()
        given = answered(*calls)
        self.assertLess(time.perf_counter() - start, 5)
        return given

    def test_four_calls_of_list(self):
        self.assertEqual(
            self.within_seconds(listed(3, 0), listed(3, 2), listed(3, 3), listed(2, 1)), [[0], [2], [-3], [1]])

    def test_three_calls_of_list_with_the_most_steps(self):
        asked = (listed(3, 59048), listed(3, 59049), listed(3, FAR_OUT[1]))
        self.assertEqual(
            self.within_seconds(places(10), *asked, *[count(3)] * 9), [[10], [2] * 10, [-3], [-3], *[[59049]] * 9])
        five = (places(9), turn(1, 2, 3, 4, 0, 5, 6, 7, 8))
        self.assertEqual(self.within_seconds(*five, *[listed(3, 4131)] * 3), [[9], [5], [-3], [-3], [-3]])

    def test_forty_calls_of_two_hundred_exchanges(self):
        for call, answer in (
                (by(2, 2, 2, 2, 2), [678]),
                (by(10, 10, 10, 10, 10), [0]),
                (first(9, 8, 7, 6, 5, 4, 3, 2, 1, 0), [1, 200, *range(10)]),
                (alike(range(10), (1, 0, 2, 3, 4, 5, 6, 7, 8, 9)), [0]),
                (member(1, 0, 3, 4, 2, 6, 7, 8, 9, 5), [0, 30]),
                (ORBITS, [1, 10, *range(10)]),
                (count(1000), answered(*TWO_HUNDRED, count(1000))[-1])):
            self.assertEqual(self.within_seconds(*TWO_HUNDRED, *[call] * 36)[4:], [answer] * 36)


class WhatStandsBehind(unittest.TestCase):
    def test_the_list_handed_in_is_the_same_behind_the_call(self):
        calls = list(SQUARE)
        answers(calls)
        self.assertEqual(calls, SQUARE)

    def test_the_list_handed_in_is_not_changed_for_a_while_either(self):
        class Unchanging(list):
            def refuse(self, *arguments, **named):
                raise AssertionError("what is handed in was changed")

            __setitem__ = __delitem__ = __iadd__ = __imul__ = refuse
            append = extend = insert = pop = remove = clear = sort = reverse = refuse

        self.assertEqual(answers(Unchanging(SQUARE)), SQUARE_ANSWERS)

    def test_nothing_is_kept_from_one_time_to_the_next(self):
        first = answers(list(SQUARE))
        self.assertEqual(answers([2, 0, 0, 3, 0, 0]), [2, 1, 0, 3, 1, 1, 0])
        again = answers(list(SQUARE))
        self.assertEqual(first, SQUARE_ANSWERS)
        self.assertEqual(again, SQUARE_ANSWERS)
        self.assertIsNot(first, again)

    def test_what_is_given_back_is_the_callers_own(self):
        answers(list(SQUARE)).clear()
        self.assertEqual(answers(list(SQUARE)), SQUARE_ANSWERS)

    def test_the_answers_are_a_list_of_whole_numbers(self):
        given = answers(list(SQUARE) + [5, 1, 0, 0, 5, 1, 1001, 0, 10, 4, 1, 0, 2, 3, 0, 0, 1, 0, 0, 1, 0, 0])
        self.assertIs(type(given), list)
        self.assertEqual({type(number) for number in given}, {int})

    def test_nothing_but_a_refusal_is_below_0(self):
        self.assertGreaterEqual(min(answers(list(SQUARE))), 0)

    def test_nothing_is_printed(self):
        out, err = io.StringIO(), io.StringIO()
        with contextlib.redirect_stdout(out), contextlib.redirect_stderr(err):
            answers(list(SQUARE))
        self.assertEqual((out.getvalue(), err.getvalue()), ("", ""))


if __name__ == "__main__":
    unittest.main()
