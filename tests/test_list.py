"""The call list, which is listed in the interface."""

import itertools
import unittest

from lines import (
    DIE, FAR_OUT, GROUP, NECKLACE_OF_EIGHT, NECKLACE_OF_SIX, TWO_HUNDRED, all_made, answered, count, first, last,
    listed, moved, places, turn)

FAR_BELOW, FAR_ABOVE = FAR_OUT
# Two necklaces of five beads that stay where they are: 100 exchanges of ten places.
HUNDRED = (
    places(10), turn(1, 2, 3, 4, 0, 5, 6, 7, 8, 9), turn(0, 4, 3, 2, 1, 5, 6, 7, 8, 9),
    turn(0, 1, 2, 3, 4, 6, 7, 8, 9, 5), turn(0, 1, 2, 3, 4, 5, 9, 8, 7, 6))
# All exchanges of four places, and two pairs that may be swapped: 96 exchanges of ten places.
NINETY_SIX = (
    places(10), turn(1, 2, 3, 0, 4, 5, 6, 7, 8, 9), turn(1, 0, 2, 3, 4, 5, 6, 7, 8, 9),
    turn(0, 1, 2, 3, 5, 4, 6, 7, 8, 9), turn(0, 1, 2, 3, 4, 5, 7, 6, 8, 9))


def all_listed(group, k, how_many):
    """What is answered for each number below how many, asked two at a time."""
    given = []
    for i in range(0, how_many, 2):
        given.extend(answered(*group, listed(k, i), listed(k, i + 1))[len(group):])
    return given[:how_many]


class Listed(unittest.TestCase):
    def test_with_no_exchange_told_all_colourings_are_firsts(self):
        self.assertEqual(
            answered(places(3), listed(2, 0), listed(2, 1), listed(2, 6))[1:], [[0, 0, 0], [0, 0, 1], [1, 1, 0]])
        self.assertEqual(
            answered(places(3), listed(3, 5), listed(3, 26), listed(3, 27))[1:], [[0, 1, 2], [2, 2, 2], [-3]])

    def test_of_the_one_place_at_the_beginning(self):
        self.assertEqual(answered(listed(1, 0), listed(2, 0), listed(2, 1), listed(3, 2)), [[0], [0], [1], [2]])
        self.assertEqual(answered(listed(1, 1), listed(2, 2), listed(3, 1), listed(3, 3)), [[-3], [-3], [1], [-3]])

    def test_all_necklaces_of_six_in_two_colours(self):
        self.assertEqual(all_listed(NECKLACE_OF_SIX, 2, 14), [
            [0, 0, 0, 0, 0, 0], [0, 0, 0, 0, 0, 1], [0, 0, 0, 0, 1, 1], [0, 0, 0, 1, 0, 1], [0, 0, 0, 1, 1, 1],
            [0, 0, 1, 0, 0, 1], [0, 0, 1, 0, 1, 1], [0, 0, 1, 1, 1, 1], [0, 1, 0, 1, 0, 1], [0, 1, 0, 1, 1, 1],
            [0, 1, 1, 0, 1, 1], [0, 1, 1, 1, 1, 1], [1, 1, 1, 1, 1, 1], [-3]])

    def test_all_pairs_of_two_places(self):
        self.assertEqual(
            all_listed((places(2), turn(1, 0)), 3, 8),
            [[0, 0], [0, 1], [0, 2], [1, 1], [1, 2], [2, 2], [-3], [-3]])

    def test_dice(self):
        self.assertEqual(
            answered(*DIE, listed(2, 3), listed(2, 9), listed(2, 10))[3:],
            [[0, 0, 0, 1, 1, 1], [1, 1, 1, 1, 1, 1], [-3]])
        self.assertEqual(
            answered(*DIE, listed(3, 1), listed(3, 56), listed(3, 57))[3:],
            [[0, 0, 0, 0, 0, 1], [2, 2, 2, 2, 2, 2], [-3]])

    def test_one_colour_makes_one_colouring(self):
        for n in range(1, 11):
            self.assertEqual(
                answered(places(n), listed(1, 0), listed(1, 1), listed(1, FAR_ABOVE))[1:], [[0] * n, [-3], [-3]])
        self.assertEqual(answered(*TWO_HUNDRED, listed(1, 0), listed(1, 1))[4:], [[0] * 10, [-3]])

    def test_the_last_one_and_one_more(self):
        for group, k, how_many in ((NECKLACE_OF_SIX, 3, 92), (NECKLACE_OF_EIGHT, 2, 30), ((places(6),), 3, 729)):
            n = group[0][2]
            self.assertEqual(
                answered(*group, listed(k, how_many - 1), listed(k, how_many), listed(k, FAR_ABOVE))[len(group):],
                [[k - 1] * n, [-3], [-3]])
            self.assertEqual(last(*group, count(k)), [how_many])

    def test_places_and_turns_behind_it(self):
        self.assertEqual(
            answered(places(2), listed(2, 2), turn(1, 0), listed(2, 2), places(2), listed(2, 2)),
            [[2], [1, 0], [2], [1, 1], [2], [1, 0]])


class AgainstAllOneByOne(unittest.TestCase):
    """What is listed, held against all colourings made one by one, and against count and first."""

    def compare(self, n, told):
        group = all_made(told, n)
        base = (places(n), *[turn(*one) for one in told])
        for k in (1, 2, 3):
            colourings = itertools.product(range(k), repeat=n)
            firsts = sorted({min(moved(one, exchange) for exchange in group) for one in colourings})
            given = all_listed(base, k, len(firsts) + 1)
            self.assertEqual(given, [*[list(one) for one in firsts], [-3]])
            self.assertEqual(last(*base, count(k)), [len(firsts)])
            for one in firsts:
                self.assertEqual(last(*base, first(*one))[2:], list(one))

    def test_none_and_one_told(self):
        for n in range(1, 4):
            self.compare(n, [])
            for exchange in itertools.permutations(range(n)):
                self.compare(n, [exchange])

    def test_several_told(self):
        self.compare(4, [(1, 2, 3, 0), (3, 2, 1, 0)])
        self.compare(4, [(1, 2, 0, 3), (1, 0, 3, 2)])
        self.compare(5, [(1, 2, 3, 4, 0)])
        self.compare(5, [(1, 2, 0, 3, 4), (0, 1, 2, 4, 3)])


class Refused(unittest.TestCase):
    def test_k_is_not_1_to_3(self):
        for k in (0, 4, -1, 5, *FAR_OUT):
            for i in (0, 1, -1, *FAR_OUT):
                self.assertEqual(answered(listed(k, i)), [[-1]])
                self.assertEqual(
                    answered(places(2), turn(1, 0), listed(k, i), GROUP, listed(2, 2))[2:],
                    [[-1], [2, 0, 1, 1, 0], [1, 1]])

    def test_i_is_below_0(self):
        for i in (-1, -2, FAR_BELOW):
            for k in (1, 2, 3):
                self.assertEqual(answered(listed(k, i)), [[-1]])
                self.assertEqual(
                    answered(places(2), turn(1, 0), listed(k, i), GROUP, listed(2, 2))[2:],
                    [[-1], [2, 0, 1, 1, 0], [1, 1]])

    def test_there_is_no_such_one(self):
        self.assertEqual(
            answered(places(2), turn(1, 0), listed(2, 3), GROUP, listed(2, 2))[2:],
            [[-3], [2, 0, 1, 1, 0], [1, 1]])


class TooManySteps(unittest.TestCase):
    def test_ten_places_three_colours_and_one_exchange(self):
        # 59049
        self.assertEqual(
            answered(places(10), listed(3, 0), listed(3, 59048), listed(3, 59049)),
            [[10], [0] * 10, [2] * 10, [-3]])
        self.assertEqual(last(places(10), listed(3, 29524)), [1] * 10)

    def test_ten_places_three_colours_and_two_exchanges(self):
        # 118098
        swapped = turn(1, 0, 2, 3, 4, 5, 6, 7, 8, 9)
        self.assertEqual(
            answered(places(10), swapped, listed(3, 0), GROUP, listed(2, 0), listed(3, FAR_ABOVE))[1:],
            [[2], [-5], [2, *range(10), 1, 0, *range(2, 10)], [0] * 10, [-5]])

    def test_just_below(self):
        # 98415 = 5 * 3 ** 9 = 15 * 3 ** 8; 98304 = 96 * 2 ** 10
        five = (places(9), turn(1, 2, 3, 4, 0, 5, 6, 7, 8))
        self.assertEqual(answered(*five, listed(3, 0), listed(3, 4130), listed(3, 4131)),
                         [[9], [5], [0] * 9, [2] * 9, [-3]])
        fifteen = (places(8), turn(1, 2, 3, 4, 0, 6, 7, 5))
        self.assertEqual(answered(*fifteen, listed(3, 0), listed(3, 560), listed(3, 561)),
                         [[8], [15], [0] * 8, [2] * 8, [-3]])
        self.assertEqual(answered(*NINETY_SIX, listed(2, 0), listed(2, 179), listed(2, 180))[4:],
                         [[96], [0] * 10, [1] * 10, [-3]])

    def test_just_above(self):
        # 102400 = 100 * 2 ** 10; 104976 = 16 * 3 ** 8; 118098 = 6 * 3 ** 9
        six = (places(9), turn(1, 0, 3, 4, 2, 5, 6, 7, 8))
        for group, order, k in ((HUNDRED, 100, 2), (NECKLACE_OF_EIGHT, 16, 3), (six, 6, 3)):
            self.assertEqual(answered(*group, listed(k, 0), listed(k, 1), listed(1, 0))[len(group) - 1:],
                             [[order], [-5], [-5], [0] * group[0][2]])

    def test_two_hundred_exchanges(self):
        self.assertEqual(answered(*TWO_HUNDRED, listed(2, 0), listed(3, 0), listed(1, 0))[4:], [[-5], [-5], [0] * 10])

    def test_what_is_told_first_is_answered_first(self):
        for group, k in ((HUNDRED, 2), (TWO_HUNDRED, 3), (NECKLACE_OF_EIGHT, 3)):
            self.assertEqual(
                answered(*group, listed(k, -1), listed(k, FAR_BELOW), listed(4, 0))[len(group):], [[-1], [-1], [-1]])
            self.assertEqual(
                answered(*group, listed(k, FAR_ABOVE), listed(4, FAR_ABOVE), listed(0, -1))[len(group):],
                [[-5], [-1], [-1]])


if __name__ == "__main__":
    unittest.main()
