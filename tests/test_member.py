"""The call member."""

import itertools
import unittest

from lines import DIE, FAR_OUT, GROUP, NECKLACE_OF_EIGHT, TWO_HUNDRED, all_made, answered, last, member, places, turn


class Member(unittest.TestCase):
    def test_the_one_by_which_all_stays_is_in_each_group(self):
        for n in range(1, 11):
            self.assertEqual(answered(places(n), member(*range(n)), turn(*range(1, n), 0), member(*range(n)))[1:],
                             [[1, 1], [n], [1, 1]])

    def test_of_the_one_place_at_the_beginning(self):
        self.assertEqual(answered(member(0)), [[1, 1]])

    def test_with_no_exchange_told(self):
        self.assertEqual(
            answered(places(4), member(1, 0, 2, 3), member(1, 2, 0, 3), member(1, 2, 3, 0), member(1, 0, 3, 2))[1:],
            [[0, 2], [0, 3], [0, 4], [0, 2]])

    def test_in_the_group_and_not_in_it(self):
        self.assertEqual(
            answered(*NECKLACE_OF_EIGHT, member(7, 0, 1, 2, 3, 4, 5, 6), member(2, 3, 4, 5, 6, 7, 0, 1),
                     member(4, 5, 6, 7, 0, 1, 2, 3), member(0, 7, 6, 5, 4, 3, 2, 1), member(1, 0, 2, 3, 4, 5, 6, 7),
                     member(3, 4, 5, 6, 7, 0, 1, 2), member(1, 2, 3, 0, 5, 6, 7, 4))[3:],
            [[1, 8], [1, 4], [1, 2], [1, 2], [0, 2], [1, 8], [0, 4]])

    def test_dice(self):
        self.assertEqual(
            answered(*DIE, member(5, 4, 3, 2, 1, 0), member(5, 4, 2, 3, 1, 0), member(1, 2, 0, 5, 3, 4),
                     member(0, 3, 1, 4, 2, 5))[3:],
            [[0, 2], [1, 2], [1, 3], [1, 4]])

    def test_rings_of_several_lengths(self):
        two_three_five = (1, 0, 3, 4, 2, 6, 7, 8, 9, 5)
        self.assertEqual(
            answered(places(10), member(*two_three_five), turn(*two_three_five), member(*two_three_five))[1:],
            [[0, 30], [30], [1, 30]])
        self.assertEqual(
            answered(
                places(10),
                member(1, 2, 3, 0, 5, 6, 7, 8, 9, 4), member(1, 2, 3, 0, 5, 4, 6, 7, 8, 9),
                member(1, 2, 0, 4, 5, 6, 7, 8, 9, 3), member(1, 2, 3, 4, 5, 6, 0, 8, 9, 7),
                member(1, 2, 3, 4, 0, 6, 7, 8, 9, 5), member(1, 0, 3, 4, 5, 6, 7, 8, 9, 2),
                member(1, 2, 3, 4, 5, 6, 7, 8, 9, 0))[1:],
            [[0, 12], [0, 4], [0, 21], [0, 21], [0, 5], [0, 8], [0, 10]])

    def test_of_two_hundred_exchanges(self):
        self.assertEqual(
            answered(*TWO_HUNDRED, member(6, 7, 8, 9, 5, 0, 1, 2, 3, 4), member(1, 2, 3, 4, 0, 5, 9, 8, 7, 6),
                     member(1, 0, 2, 3, 4, 5, 6, 7, 8, 9), member(5, 1, 2, 3, 4, 0, 6, 7, 8, 9))[4:],
            [[1, 10], [1, 10], [0, 2], [0, 2]])

    def test_asking_tells_nothing(self):
        self.assertEqual(
            answered(places(3), member(1, 2, 0), GROUP, member(1, 2, 0), turn(1, 0, 2), member(1, 2, 0), GROUP)[1:],
            [[0, 3], [1, 0, 1, 2], [0, 3], [2], [0, 3], [2, 0, 1, 2, 1, 0, 2]])

    def test_what_was_refused_by_turn_is_not_in_it(self):
        swapped = (1, 0, 2, 3, 4, 5, 6, 7, 8, 9)
        self.assertEqual(answered(*TWO_HUNDRED, turn(*swapped), member(*swapped))[4:], [[-2], [0, 2]])

    def test_places_anew(self):
        self.assertEqual(
            answered(places(3), turn(1, 2, 0), member(2, 0, 1), places(3), member(2, 0, 1), member(0, 1, 2))[2:],
            [[1, 3], [3], [0, 3], [1, 1]])

    def test_all_exchanges_of_up_to_five_places(self):
        for n in range(1, 6):
            told = tuple(range(1, n)) + (0,)
            group = all_made([told], n)
            for exchange in itertools.permutations(range(n)):
                times = len(all_made([exchange], n))
                self.assertEqual(
                    last(places(n), turn(*told), member(*exchange)), [1 if exchange in group else 0, times])


class NoExchange(unittest.TestCase):
    def refused(self, n, *numbers):
        """Whether the numbers are refused, and the group is behind it as it was."""
        around = tuple(range(1, n)) + (0,)
        before, refusal, behind = answered(places(n), turn(*around), GROUP, member(*numbers), GROUP)[2:]
        self.assertEqual(refusal, [-1], numbers)
        self.assertEqual(behind, before)

    def test_too_few_and_too_many_numbers(self):
        for n in (1, 3, 10):
            self.refused(n)
            self.refused(n, *range(n - 1))
            self.refused(n, *range(n + 1))
            self.refused(n, *range(n), 0)
            self.refused(n, *range(14))
            self.refused(n, *[0] * 14)

    def test_a_number_twice(self):
        self.refused(2, 0, 0)
        self.refused(3, 1, 1, 0)
        self.refused(3, 2, 2, 2)
        self.refused(10, 0, 1, 2, 3, 4, 5, 6, 7, 8, 8)

    def test_a_number_below_0_or_not_below_n(self):
        self.refused(1, 1)
        self.refused(1, -1)
        self.refused(3, 1, 2, 3)
        self.refused(3, 0, 1, -1)
        self.refused(3, -3, -2, -1)
        self.refused(10, 1, 2, 3, 4, 5, 6, 7, 8, 9, 10)

    def test_numbers_far_out(self):
        for far in FAR_OUT:
            self.refused(1, far)
            self.refused(3, 0, 1, far)
            self.refused(3, far, far, far)
            self.refused(3, *[far] * 14)


if __name__ == "__main__":
    unittest.main()
