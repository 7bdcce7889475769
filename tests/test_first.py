"""The call first."""

import itertools
import unittest

from lines import (
    BOARD_OF_NINE, DIE, FAR_OUT, GROUP, NECKLACE_OF_EIGHT, NECKLACE_OF_SIX, TWO_HUNDRED, all_made, answered, first,
    last, moved, places, turn)


class First(unittest.TestCase):
    def test_with_no_exchange_told_each_is_alike_to_itself_alone(self):
        self.assertEqual(
            answered(places(3), first(2, 1, 0), first(0, 0, 0), first(9, 0, 9), first(9, 9, 9))[1:],
            [[1, 1, 2, 1, 0], [1, 1, 0, 0, 0], [1, 1, 9, 0, 9], [1, 1, 9, 9, 9]])
        self.assertEqual(
            last(places(10), first(9, 8, 7, 6, 5, 4, 3, 2, 1, 0)), [1, 1, 9, 8, 7, 6, 5, 4, 3, 2, 1, 0])

    def test_of_the_one_place_at_the_beginning(self):
        self.assertEqual(answered(first(0), first(5), first(9)), [[1, 1, 0], [1, 1, 5], [1, 1, 9]])

    def test_one_that_is_the_first_and_others_that_are_not(self):
        self.assertEqual(
            answered(*NECKLACE_OF_SIX, first(0, 0, 1, 0, 1, 1), first(1, 1, 0, 1, 0, 0), first(1, 0, 0, 1, 0, 1))[3:],
            [[1, 12, 0, 0, 1, 0, 1, 1]] * 3)

    def test_what_the_exchanges_leave(self):
        self.assertEqual(
            answered(*NECKLACE_OF_EIGHT, first(3, 3, 3, 3, 3, 3, 3, 3), first(1, 0, 1, 0, 1, 0, 1, 0),
                     first(5, 2, 2, 2, 2, 2, 2, 2), first(2, 1, 0, 0, 2, 1, 0, 0), first(0, 1, 2, 3, 4, 5, 6, 7))[3:],
            [[16, 1, 3, 3, 3, 3, 3, 3, 3, 3], [8, 2, 0, 1, 0, 1, 0, 1, 0, 1], [2, 8, 2, 2, 2, 2, 2, 2, 2, 5],
             [2, 8, 0, 0, 1, 2, 0, 0, 1, 2], [1, 16, 0, 1, 2, 3, 4, 5, 6, 7]])

    def test_dice(self):
        self.assertEqual(
            answered(*DIE, first(1, 0, 0, 0, 0, 0), first(1, 0, 0, 0, 0, 1), first(1, 1, 0, 0, 0, 0))[3:],
            [[4, 6, 0, 0, 0, 0, 0, 1], [8, 3, 0, 0, 1, 1, 0, 0], [2, 12, 0, 0, 0, 0, 1, 1]])

    def test_a_die_and_its_mirror_image(self):
        self.assertEqual(
            answered(*DIE, first(5, 1, 3, 2, 4, 0), first(5, 4, 3, 2, 1, 0))[3:],
            [[1, 24, 0, 1, 2, 3, 4, 5], [1, 24, 0, 1, 3, 2, 4, 5]])

    def test_by_the_first_place_at_which_they_differ(self):
        # By their sum or read from behind (9, 0, 0) and (0, 9, 0) would come ahead of (0, 0, 9).
        self.assertEqual(
            answered(places(3), turn(1, 2, 0), first(9, 0, 0), first(0, 9, 0), first(2, 1, 0), first(1, 2, 0))[2:],
            [[1, 3, 0, 0, 9], [1, 3, 0, 0, 9], [1, 3, 0, 2, 1], [1, 3, 0, 1, 2]])

    def test_of_two_hundred_exchanges(self):
        self.assertEqual(
            answered(*TWO_HUNDRED, first(9, 8, 7, 6, 5, 4, 3, 2, 1, 0), first(1, 1, 1, 1, 1, 0, 0, 0, 0, 0),
                     first(2, 2, 2, 2, 2, 2, 2, 2, 2, 2), first(0, 0, 0, 0, 0, 0, 0, 1, 0, 0))[4:],
            [[1, 200, 0, 1, 2, 3, 4, 5, 6, 7, 8, 9], [100, 2, 0, 0, 0, 0, 0, 1, 1, 1, 1, 1],
             [200, 1, 2, 2, 2, 2, 2, 2, 2, 2, 2, 2], [20, 10, 0, 0, 0, 0, 0, 0, 0, 0, 0, 1]])

    def test_of_boards(self):
        self.assertEqual(
            answered(*BOARD_OF_NINE, first(1, 0, 0, 0, 2, 0, 0, 0, 0), first(0, 1, 0, 1, 0, 1, 0, 1, 0))[3:],
            [[2, 4, 0, 0, 0, 0, 2, 0, 0, 0, 1], [8, 1, 0, 1, 0, 1, 0, 1, 0, 1, 0]])


class AgainstAllOneByOne(unittest.TestCase):
    """Every two exchanges of up to three places, and some of more, with all colourings by three colours."""

    def compare(self, n, told):
        group = all_made(told, n)
        base = (places(n), *[turn(*one) for one in told])
        colourings = list(itertools.product(range(3), repeat=n))
        given = []
        for start in range(0, len(colourings), 30):
            given.extend(answered(*base, *[first(*one) for one in colourings[start:start + 30]])[len(base):])
        firsts = {}
        for colouring, answer in zip(colourings, given, strict=True):
            everywhere = [moved(colouring, exchange) for exchange in group]
            self.assertEqual(answer, [everywhere.count(colouring), len(set(everywhere)), *min(everywhere)])
            self.assertEqual(answer[0] * answer[1], len(group))
            firsts[colouring] = answer[2:]
        for one, other in itertools.combinations(colourings, 2):
            are_alike = any(moved(one, exchange) == other for exchange in group)
            self.assertEqual(firsts[one] == firsts[other], are_alike)

    def test_two_told(self):
        for n in range(1, 4):
            for told in itertools.combinations_with_replacement(itertools.permutations(range(n)), 2):
                self.compare(n, told)

    def test_of_more_places(self):
        self.compare(4, [])
        self.compare(4, [(1, 2, 3, 0)])
        self.compare(4, [(1, 2, 0, 3), (1, 0, 3, 2)])
        self.compare(5, [(1, 2, 0, 4, 3)])


class Refused(unittest.TestCase):
    def refused(self, n, *colouring):
        """Whether the colouring is refused, and all is behind it as it was."""
        around = turn(*range(1, n), 0)
        before, refusal, behind = answered(places(n), around, GROUP, first(*colouring), GROUP)[2:]
        self.assertEqual(refusal, [-1], colouring)
        self.assertEqual(behind, before)

    def test_too_few_and_too_many_numbers(self):
        for n in (1, 3, 10):
            self.refused(n)
            self.refused(n, *[0] * (n - 1))
            self.refused(n, *[0] * (n + 1))
            self.refused(n, *[0] * 14)
            self.refused(n, *[9] * 14)
        self.assertEqual(answered(first(), first(0, 0), first(0)), [[-1], [-1], [1, 1, 0]])

    def test_colours_below_0_above_9_and_far_out(self):
        for wrong in (-1, 10, 11, -9, *FAR_OUT):
            self.refused(1, wrong)
            self.refused(3, wrong, 0, 0)
            self.refused(3, 0, wrong, 0)
            self.refused(3, 9, 9, wrong)
            self.refused(3, *[wrong] * 3)
            self.refused(10, *range(9), wrong)
            self.refused(10, *[wrong] * 14)

    def test_all_the_colours_from_0_to_9_are_answered(self):
        for colour in range(10):
            self.assertEqual(last(places(2), turn(1, 0), first(9, colour))[2:], [colour, 9])


if __name__ == "__main__":
    unittest.main()
