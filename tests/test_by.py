"""The call by."""

import itertools
import unittest

from lines import (
    BOARD_OF_NINE, DIE, FAR_OUT, GROUP, NECKLACE_OF_EIGHT, NECKLACE_OF_SIX, TWO_HUNDRED, answered, by, count, last,
    places, turn)


def shared_out(n, colours):
    """Each way to tell how many of n places are to have each colour."""
    return [numbers for numbers in itertools.product(range(n + 1), repeat=colours) if sum(numbers) == n]


def asked_in_turn(group, calls):
    """The answers to any number of calls, asked forty at most in one list."""
    room = 40 - len(group)
    given = []
    for start in range(0, len(calls), room):
        given.extend(answered(*group, *calls[start:start + room])[len(group):])
    return given


class By(unittest.TestCase):
    def test_with_no_exchange_told(self):
        self.assertEqual(
            answered(places(4), by(4), by(3, 1), by(2, 2), by(2, 1, 1), by(1, 1, 1, 1), by(1, 0, 1, 1, 1)),
            [[4], [1], [4], [6], [12], [24], [24]])
        self.assertEqual(
            answered(places(10), by(5, 5), by(2, 2, 2, 2, 2), by(1, 2, 3, 4), by(6, 1, 1, 1, 1)),
            [[10], [252], [113400], [12600], [5040]])

    def test_of_the_one_place_at_the_beginning(self):
        self.assertEqual(answered(by(1), by(0, 1), by(0, 0, 0, 0, 1), by(0), by(1, 1), by(2)),
                         [[1], [1], [1], [0], [0], [0]])

    def test_necklaces(self):
        self.assertEqual(
            answered(*NECKLACE_OF_EIGHT, *[by(black, 8 - black) for black in range(9)])[3:],
            [[1], [1], [4], [5], [8], [5], [4], [1], [1]])
        self.assertEqual(
            answered(*NECKLACE_OF_SIX, by(2, 2, 2), by(3, 2, 1), by(2, 1, 1, 1, 1), by(4, 2))[3:],
            [[11], [6], [30], [3]])

    def test_turned_but_not_turned_over(self):
        self.assertEqual(
            answered(places(6), turn(1, 2, 3, 4, 5, 0), by(3, 3), by(2, 2, 2), by(3, 2, 1), by(5, 1))[2:],
            [[4], [16], [10], [1]])

    def test_dice(self):
        self.assertEqual(
            answered(*DIE, by(6), by(5, 1), by(4, 2), by(3, 3), by(2, 2, 2), by(2, 1, 1, 1, 1))[3:],
            [[1], [1], [2], [2], [6], [15]])

    def test_boards(self):
        self.assertEqual(
            answered(*BOARD_OF_NINE, by(8, 1), by(7, 2), by(6, 3), by(5, 4))[3:], [[3], [8], [16], [23]])

    def test_numbers_of_0_among_the_others(self):
        self.assertEqual(
            answered(*DIE, by(0, 3, 3), by(3, 0, 3), by(3, 3, 0), by(0, 3, 0, 3, 0), by(0, 2, 2, 0, 2))[3:],
            [[2], [2], [2], [2], [6]])

    def test_the_order_of_the_colours_makes_no_difference_to_how_many(self):
        for numbers in itertools.permutations((3, 2, 1)):
            self.assertEqual(last(*NECKLACE_OF_SIX, by(*numbers)), [6])

    def test_all_the_places_of_one_colour(self):
        for n in range(1, 11):
            around = turn(*range(1, n), 0)
            self.assertEqual(
                answered(places(n), by(n), around, by(n), by(n, 0, 0, 0, 0), by(0, 0, 0, 0, n), by(0, n))[1:],
                [[1], [n], [1], [1], [1], [1]])
        self.assertEqual(answered(*TWO_HUNDRED, by(10), by(0, 0, 10))[4:], [[1], [1]])

    def test_not_as_many_as_there_are_places(self):
        self.assertEqual(
            answered(*DIE, by(0), by(5), by(7), by(3, 2), by(3, 4), by(0, 0, 0, 0, 0), by(10, 10, 10, 10, 10))[3:],
            [[0]] * 7)
        self.assertEqual(
            answered(places(10), by(9), by(5, 4), by(5, 6), by(10, 1), by(10, 10), by(2, 2, 2, 2, 1))[1:], [[0]] * 6)
        self.assertEqual(answered(places(3), by(10), by(10, 0, 0, 0, 0), by(4), by(2))[1:], [[0]] * 4)

    def test_all_the_ways_together_are_what_count_answers(self):
        for group in ((places(4),), (places(4), turn(1, 2, 3, 0)), DIE, NECKLACE_OF_SIX):
            n = group[0][2]
            for colours in range(1, 6):
                given = asked_in_turn(group, [by(*numbers) for numbers in shared_out(n, colours)])
                self.assertEqual([sum(answer[0] for answer in given)], last(*group, count(colours)))


class OfTwoHundredExchanges(unittest.TestCase):
    def necklaces_of_five(self, colours):
        """The necklaces of five beads, one colouring of each."""
        firsts = set()
        for beads in itertools.product(range(colours), repeat=5):
            turned = [beads[start:] + beads[:start] for start in range(5)]
            firsts.add(min(turned + [one[::-1] for one in turned]))
        return sorted(firsts)

    def test_five_numbers(self):
        pairs = {}
        for one, other in itertools.combinations_with_replacement(self.necklaces_of_five(5), 2):
            numbers = tuple((one + other).count(colour) for colour in range(5))
            pairs[numbers] = pairs.get(numbers, 0) + 1
        asked = ((2, 2, 2, 2, 2), (6, 1, 1, 1, 1), (3, 3, 2, 1, 1), (0, 5, 0, 5, 0), (1, 2, 0, 3, 4), (10, 0, 0, 0, 0))
        given = answered(*TWO_HUNDRED, *[by(*numbers) for numbers in asked])[3:]
        self.assertEqual(given, [[200], *[[pairs[numbers]] for numbers in asked]])
        self.assertEqual(given, [[200], [678], [48], [312], [6], [96], [1]])


class Refused(unittest.TestCase):
    def refused(self, *numbers):
        """Whether the numbers are refused, and all is behind it as it was."""
        self.assertEqual(
            answered(places(2), turn(1, 0), by(*numbers), GROUP, by(1, 1), by(2, 0)),
            [[2], [2], [-1], [2, 0, 1, 1, 0], [1], [1]], numbers)
        self.assertEqual(last(places(10), by(*numbers)), [-1], numbers)

    def test_none_and_more_than_five(self):
        self.refused()
        self.refused(1, 1, 0, 0, 0, 0)
        self.refused(2, 2, 2, 2, 1, 1)
        self.refused(0, 0, 0, 0, 0, 0, 0)
        self.refused(1, 1, 1, 1, 1, 1, 2, 2)
        self.refused(0, 0, 0, 0, 0, 0, 0, 0)

    def test_one_to_five_are_answered(self):
        for length in range(1, 6):
            self.assertEqual(last(places(10), by(10, *[0] * (length - 1))), [1])

    def test_below_0_above_10_and_far_out(self):
        for wrong in (-1, 11, 12, -10, *FAR_OUT):
            self.refused(wrong)
            self.refused(wrong, 2)
            self.refused(1, wrong)
            self.refused(1, 1, 0, 0, wrong)
            self.refused(*[wrong] * 5)
            self.refused(*[wrong] * 8)

    def test_numbers_that_together_are_as_many_as_the_places(self):
        self.refused(-1, 11)
        self.refused(3, -1)
        self.refused(11, -1)
        self.refused(*FAR_OUT, 2)


if __name__ == "__main__":
    unittest.main()
