"""The call alike."""

import itertools
import unittest

from lines import (
    DIE, FAR_OUT, GROUP, NECKLACE_OF_EIGHT, NECKLACE_OF_SIX, TWO_HUNDRED, alike, all_made, answered, last, moved,
    places, turn)


class Alike(unittest.TestCase):
    def test_with_no_exchange_told_each_is_alike_to_itself_alone(self):
        self.assertEqual(
            answered(places(3), alike((0, 1, 2), (0, 1, 2)), alike((0, 1, 2), (2, 1, 0)), alike((9, 9, 9), (9, 9, 9)),
                     alike((0, 0, 0), (0, 0, 1)))[1:],
            [[1, 0, 1, 2], [0], [1, 0, 1, 2], [0]])

    def test_of_the_one_place_at_the_beginning(self):
        self.assertEqual(answered(alike([0], [0]), alike([9], [9]), alike([0], [1]), alike([9], [0])),
                         [[1, 0], [1, 0], [0], [0]])

    def test_the_exchange_moves_the_one_to_the_other(self):
        # The exchange and the one that undoes it are not the same here.
        around = (places(3), turn(1, 2, 0))
        self.assertEqual(
            answered(*around, alike((5, 6, 7), (7, 5, 6)), alike((7, 5, 6), (5, 6, 7)), alike((5, 6, 7), (6, 7, 5)))[2:],
            [[1, 1, 2, 0], [1, 2, 0, 1], [1, 2, 0, 1]])
        rings = (places(5), turn(2, 0, 1, 4, 3))
        self.assertEqual(
            answered(*rings, alike((1, 2, 3, 4, 5), (2, 3, 1, 5, 4)), alike((2, 3, 1, 5, 4), (1, 2, 3, 4, 5)))[2:],
            [[1, 2, 0, 1, 4, 3], [1, 1, 2, 0, 4, 3]])

    def test_necklaces_that_are_not_alike(self):
        self.assertEqual(
            answered(*NECKLACE_OF_SIX, alike((0, 0, 0, 1, 1, 1), (0, 0, 1, 0, 1, 1)),
                     alike((0, 0, 0, 0, 0, 1), (0, 0, 0, 0, 0, 2)), alike((0, 0, 0, 0, 0, 0), (0, 0, 0, 0, 0, 1)))[3:],
            [[0], [0], [0]])

    def test_turned_over(self):
        one, other = (0, 0, 1, 2, 0, 3), (0, 0, 3, 0, 2, 1)
        self.assertEqual(last(*NECKLACE_OF_SIX, alike(one, other)), [1, 1, 0, 5, 4, 3, 2])
        self.assertEqual(last(places(6), turn(1, 2, 3, 4, 5, 0), alike(one, other)), [0])

    def test_a_die_and_its_mirror_image(self):
        self.assertEqual(
            answered(*DIE, alike((0, 1, 2, 3, 4, 5), (5, 4, 3, 2, 1, 0)), alike((0, 1, 2, 3, 4, 5), (0, 2, 4, 1, 3, 5)),
                     alike((0, 2, 4, 1, 3, 5), (0, 1, 2, 3, 4, 5)))[3:],
            [[0], [1, 0, 3, 1, 4, 2, 5], [1, 0, 2, 4, 1, 3, 5]])

    def test_of_several_exchanges_the_first_in_order(self):
        self.assertEqual(
            answered(*NECKLACE_OF_EIGHT, alike((1, 0, 1, 0, 1, 0, 1, 0), (0, 1, 0, 1, 0, 1, 0, 1)),
                     alike((1, 0, 0, 0, 0, 0, 0, 0), (0, 0, 0, 0, 1, 0, 0, 0)))[3:],
            [[1, 1, 0, 7, 6, 5, 4, 3, 2], [1, 4, 3, 2, 1, 0, 7, 6, 5]])
        self.assertEqual(
            answered(places(3), turn(1, 2, 0), turn(1, 0, 2), alike((0, 0, 1), (0, 1, 0)),
                     alike((0, 1, 1), (1, 1, 0)))[3:],
            [[1, 0, 2, 1], [1, 2, 0, 1]])

    def test_a_colouring_and_itself_stay(self):
        self.assertEqual(
            answered(*TWO_HUNDRED, alike([4] * 10, [4] * 10), alike(range(10), range(10)),
                     alike([0] * 5 + [1] * 5, [0] * 5 + [1] * 5))[4:],
            [[1, *range(10)]] * 3)

    def test_of_two_hundred_exchanges(self):
        self.assertEqual(
            answered(*TWO_HUNDRED, alike(range(10), (6, 5, 9, 8, 7, 2, 3, 4, 0, 1)), alike(range(10), range(9, -1, -1)),
                     alike(range(10), (1, 0, 2, 3, 4, 5, 6, 7, 8, 9)))[4:],
            [[1, 8, 9, 5, 6, 7, 1, 0, 4, 3, 2], [1, 9, 8, 7, 6, 5, 4, 3, 2, 1, 0], [0]])


class AgainstAllOneByOne(unittest.TestCase):
    def compare(self, n, told):
        group = all_made(told, n)
        base = (places(n), *[turn(*one) for one in told])
        pairs = list(itertools.product(itertools.product(range(3 if n < 4 else 2), repeat=n), repeat=2))
        for start in range(0, len(pairs), 30):
            some = pairs[start:start + 30]
            given = answered(*base, *[alike(one, other) for one, other in some])[len(base):]
            for (one, other), answer in zip(some, given, strict=True):
                that_move = [list(exchange) for exchange in group if moved(one, exchange) == other]
                self.assertEqual(answer, [1, *that_move[0]] if that_move else [0])

    def test_none_and_one_told(self):
        for n in range(1, 4):
            self.compare(n, [])
            for exchange in itertools.permutations(range(n)):
                self.compare(n, [exchange])

    def test_several_told(self):
        self.compare(3, [(1, 2, 0), (1, 0, 2)])
        self.compare(4, [(1, 2, 3, 0)])
        self.compare(4, [(1, 2, 0, 3), (1, 0, 3, 2)])


class Refused(unittest.TestCase):
    def refused(self, one, other):
        """Whether the two are refused, and all is behind it as it was."""
        self.assertEqual(
            answered(places(3), turn(1, 2, 0), alike(one, other), GROUP, alike((0, 0, 1), (0, 1, 0)))[2:],
            [[-1], [3, 0, 1, 2, 1, 2, 0, 2, 0, 1], [1, 2, 0, 1]], (one, other))

    def each_refused(self, wrong):
        """The wrong one ahead of a right one, behind it, and both times."""
        for right in ((0, 0, 0), (9, 9, 9), (0, 1, 2)):
            self.refused(wrong, right)
            self.refused(right, wrong)
        self.refused(wrong, wrong)

    def test_too_short_and_too_long(self):
        for wrong in ((), (0,), (0, 0), (0, 1), (0, 0, 0, 0), (0, 1, 2, 3), [0] * 13, [0] * 14, [9] * 14):
            self.each_refused(wrong)

    def test_colours_below_0_above_9_and_far_out(self):
        for colour in (-1, 10, 11, -9, *FAR_OUT):
            self.each_refused((colour, 0, 0))
            self.each_refused((0, colour, 0))
            self.each_refused((0, 0, colour))
            self.each_refused((colour, colour, colour))
            self.each_refused([colour] * 14)

    def test_both_wrong_in_another_way(self):
        self.refused((), (0, 0, 10))
        self.refused((0, 0), (0, 0, 0, 0))
        self.refused((0, 0, -1), (0, 0))
        self.refused([0] * 14, ())

    def test_as_many_as_three_places_have_but_not_as_many_as_ten(self):
        self.assertEqual(
            answered(places(10), alike((0, 1, 2), (0, 1, 2)), alike([0] * 9, [0] * 9), alike([0] * 11, [0] * 11),
                     alike([9] * 10, [9] * 9), alike([9] * 10, [9] * 10))[1:],
            [[-1], [-1], [-1], [-1], [1, *range(10)]])

    def test_of_the_one_place_at_the_beginning(self):
        self.assertEqual(answered(alike([], []), alike([0], []), alike([], [0]), alike([0, 0], [0]), alike([0], [10])),
                         [[-1]] * 5)


if __name__ == "__main__":
    unittest.main()
