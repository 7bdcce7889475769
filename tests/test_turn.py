"""The call turn."""

import unittest

from lines import FAR_OUT, GROUP, ORBITS, TWO_HUNDRED, answered, last, places, turn

TEN = tuple(range(10))
HALVES = (5, 6, 7, 8, 9, 0, 1, 2, 3, 4)


def swapped(n, one, other):
    """The exchange of n places that swaps two."""
    exchange = list(range(n))
    exchange[one], exchange[other] = other, one
    return exchange


class Turn(unittest.TestCase):
    def test_how_many_the_group_has_grows_by_what_is_told(self):
        self.assertEqual(
            answered(places(4), turn(1, 0, 2, 3), turn(0, 1, 3, 2), turn(2, 3, 0, 1), turn(0, 2, 1, 3)),
            [[4], [2], [4], [8], [24]])

    def test_one_that_is_in_the_group_makes_no_more(self):
        self.assertEqual(
            answered(places(3), turn(0, 1, 2), turn(1, 2, 0), turn(2, 0, 1), turn(0, 1, 2), turn(1, 2, 0), GROUP),
            [[3], [1], [3], [3], [3], [3], [3, 0, 1, 2, 1, 2, 0, 2, 0, 1]])

    def test_all_that_they_make_in_any_order_are_in_the_group(self):
        self.assertEqual(
            answered(places(3), turn(1, 0, 2), turn(0, 2, 1), GROUP)[1:],
            [[2], [6], [6, 0, 1, 2, 0, 2, 1, 1, 0, 2, 1, 2, 0, 2, 0, 1, 2, 1, 0]])

    def test_the_number_of_times_till_all_is_as_it_was(self):
        self.assertEqual(last(places(10), turn(1, 0, 3, 4, 2, 6, 7, 8, 9, 5)), [30])
        self.assertEqual(last(places(10), turn(1, 2, 3, 4, 5, 6, 7, 8, 9, 0)), [10])


class NoExchange(unittest.TestCase):
    def refused(self, n, *numbers):
        """Whether the numbers are refused, and the group is behind it as it was."""
        around = tuple(range(1, n)) + (0,)
        before, refusal, behind = answered(places(n), turn(*around), GROUP, turn(*numbers), GROUP)[2:]
        self.assertEqual(refusal, [-1], numbers)
        self.assertEqual(behind, before)

    def test_too_few_and_too_many_numbers(self):
        for n in (1, 3, 10):
            self.refused(n)
            self.refused(n, *range(n - 1))
            self.refused(n, *range(n + 1))
            self.refused(n, *range(n), 0)
            self.refused(n, *range(n), *range(n))
            self.refused(n, *range(14))
            self.refused(n, *[0] * 14)

    def test_a_number_twice(self):
        self.refused(2, 0, 0)
        self.refused(3, 1, 1, 0)
        self.refused(3, 2, 2, 2)
        self.refused(10, 0, 1, 2, 3, 4, 5, 6, 7, 8, 8)

    def test_a_number_below_0_or_not_below_n(self):
        self.refused(1, 1)
        self.refused(1, -1)
        self.refused(3, 1, 2, 3)
        self.refused(3, 0, 1, 3)
        self.refused(3, 0, 1, -1)
        self.refused(3, -3, -2, -1)
        self.refused(10, 1, 2, 3, 4, 5, 6, 7, 8, 9, 10)

    def test_numbers_far_out(self):
        for far in FAR_OUT:
            self.refused(1, far)
            self.refused(3, 0, 1, far)
            self.refused(3, far, far, far)
            self.refused(3, *[far] * 14)


class TooMany(unittest.TestCase):
    def test_just_two_hundred(self):
        self.assertEqual(answered(*TWO_HUNDRED), [[10], [5], [10], [200]])

    def test_more_than_two_hundred_are_refused_and_all_is_as_it_was(self):
        self.assertEqual(
            answered(*TWO_HUNDRED, turn(*swapped(10, 0, 1)), GROUP, ORBITS, turn(*TEN), turn(*HALVES))[4:],
            [[-2], [200], [1, 10, *TEN], [200], [200]])

    def test_what_was_refused_is_not_among_those_told(self):
        self.assertEqual(
            answered(
                places(9), turn(*swapped(9, 0, 1)), turn(1, 2, 0, 3, 4, 5, 6, 7, 8), turn(*swapped(9, 3, 4)),
                turn(0, 1, 2, 4, 5, 3, 6, 7, 8), turn(*swapped(9, 6, 7)), turn(0, 1, 2, 3, 4, 5, 7, 8, 6), GROUP,
                turn(1, 0, 2, 3, 4, 5, 7, 6, 8), turn(3, 4, 5, 0, 1, 2, 6, 7, 8), GROUP),
            [[9], [2], [6], [12], [36], [72], [-2], [72], [72], [144], [144]])

    def test_groups_just_about_the_bound(self):
        four_and_four = (
            places(8), turn(*swapped(8, 0, 1)), turn(1, 2, 3, 0, 4, 5, 6, 7),
            turn(0, 1, 2, 3, 5, 6, 7, 4), turn(*swapped(8, 4, 6)))
        self.assertEqual(answered(*four_and_four), [[8], [2], [24], [96], [192]])
        five_and_two = (places(7), turn(1, 2, 3, 4, 0, 5, 6), turn(*swapped(7, 0, 1)), turn(*swapped(7, 5, 6)))
        self.assertEqual(answered(*five_and_two), [[7], [5], [120], [-2]])

    def test_at_once_from_few_exchanges_to_millions(self):
        self.assertEqual(
            answered(places(10), turn(1, 2, 3, 4, 5, 6, 7, 8, 9, 0), turn(*swapped(10, 0, 1)), GROUP)[1:3],
            [[10], [-2]])
        self.assertEqual(answered(places(6), turn(*swapped(6, 0, 1)), turn(1, 2, 3, 4, 5, 0), GROUP)[2:],
                         [[-2], [2, 0, 1, 2, 3, 4, 5, 1, 0, 2, 3, 4, 5]])

    def test_what_is_no_exchange_is_told_first(self):
        self.assertEqual(last(*TWO_HUNDRED, turn(1, 0, 2, 3, 4, 5, 6, 7, 8, 8)), [-1])
        self.assertEqual(last(*TWO_HUNDRED, turn(1, 0, 2, 3, 4, 5, 6, 7, 8, 9, 10)), [-1])


if __name__ == "__main__":
    unittest.main()
