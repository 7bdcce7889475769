"""The calls group, orbits and kinds."""

import unittest

from lines import DIE, GROUP, KINDS, NECKLACE_OF_SIX, ORBITS, answered, last, places, turn

ALL_OF_FOUR = (places(4), turn(1, 2, 3, 0), turn(1, 0, 2, 3))


class Group(unittest.TestCase):
    def test_all_stays_is_in_it_when_nothing_is_told(self):
        self.assertEqual(last(places(5), GROUP), [1, 0, 1, 2, 3, 4])
        self.assertEqual(last(places(10), GROUP), [1, 0, 1, 2, 3, 4, 5, 6, 7, 8, 9])

    def test_just_twenty_four_are_told_in_order(self):
        self.assertEqual(last(*ALL_OF_FOUR, GROUP), [
            24,
            0, 1, 2, 3, 0, 1, 3, 2, 0, 2, 1, 3, 0, 2, 3, 1, 0, 3, 1, 2, 0, 3, 2, 1,
            1, 0, 2, 3, 1, 0, 3, 2, 1, 2, 0, 3, 1, 2, 3, 0, 1, 3, 0, 2, 1, 3, 2, 0,
            2, 0, 1, 3, 2, 0, 3, 1, 2, 1, 0, 3, 2, 1, 3, 0, 2, 3, 0, 1, 2, 3, 1, 0,
            3, 0, 1, 2, 3, 0, 2, 1, 3, 1, 0, 2, 3, 1, 2, 0, 3, 2, 0, 1, 3, 2, 1, 0])

    def test_twenty_four_of_more_places(self):
        answer = last(*DIE, GROUP)
        exchanges = [answer[at:at + 6] for at in range(1, len(answer), 6)]
        self.assertEqual(answer[0], 24)
        self.assertEqual(len(exchanges), 24)
        self.assertEqual(exchanges[:4], [[0, 1, 2, 3, 4, 5], [0, 2, 4, 1, 3, 5], [0, 3, 1, 4, 2, 5], [0, 4, 3, 2, 1, 5]])
        self.assertEqual(exchanges, sorted(exchanges))

    def test_of_more_than_twenty_four_only_how_many(self):
        five_and_five = (
            places(10), turn(1, 2, 3, 4, 0, 5, 6, 7, 8, 9), turn(0, 1, 2, 3, 4, 6, 7, 8, 9, 5))
        self.assertEqual(last(*five_and_five, GROUP), [25])
        self.assertEqual(last(places(5), turn(1, 2, 3, 4, 0), turn(1, 0, 2, 3, 4), GROUP), [120])

    def test_in_order_whatever_the_order_in_which_they_are_told(self):
        expected = [4, 0, 1, 2, 3, 0, 1, 3, 2, 1, 0, 2, 3, 1, 0, 3, 2]
        self.assertEqual(last(places(4), turn(1, 0, 2, 3), turn(0, 1, 3, 2), GROUP), expected)
        self.assertEqual(last(places(4), turn(1, 0, 3, 2), turn(1, 0, 2, 3), GROUP), expected)


class Orbits(unittest.TestCase):
    def test_each_place_alone_when_nothing_is_told(self):
        self.assertEqual(last(places(3), ORBITS), [3, 1, 0, 1, 1, 1, 2])

    def test_all_places_in_one(self):
        self.assertEqual(last(*DIE, ORBITS), [1, 6, 0, 1, 2, 3, 4, 5])

    def test_by_their_least_place_and_rising(self):
        self.assertEqual(
            last(places(7), turn(5, 1, 6, 3, 2, 0, 4), ORBITS),
            [4, 2, 0, 5, 1, 1, 3, 2, 4, 6, 1, 3])
        self.assertEqual(
            last(places(10), turn(9, 8, 7, 6, 5, 4, 3, 2, 1, 0), ORBITS),
            [5, 2, 0, 9, 2, 1, 8, 2, 2, 7, 2, 3, 6, 2, 4, 5])

    def test_several_exchanges_join_them(self):
        self.assertEqual(
            answered(places(5), turn(3, 1, 2, 0, 4), ORBITS, turn(0, 1, 3, 2, 4), ORBITS),
            [[5], [2], [4, 2, 0, 3, 1, 1, 1, 2, 1, 4], [6], [3, 3, 0, 2, 3, 1, 1, 1, 4]])

    def test_of_more_exchanges_than_group_tells(self):
        self.assertEqual(
            last(places(6), turn(2, 1, 3, 4, 5, 0), turn(2, 1, 0, 3, 4, 5), ORBITS),
            [2, 5, 0, 2, 3, 4, 5, 1, 1])


class Kinds(unittest.TestCase):
    def test_all_stays_alone(self):
        self.assertEqual(last(places(4), KINDS), [1, 1, 4, 0, 0, 0])
        self.assertEqual(last(places(10), KINDS), [1, 1, 10, 0, 0, 0, 0, 0, 0, 0, 0, 0])

    def test_all_exchanges_of_four(self):
        self.assertEqual(last(*ALL_OF_FOUR, KINDS), [
            5,
            1, 4, 0, 0, 0,
            6, 2, 1, 0, 0,
            8, 1, 0, 1, 0,
            3, 0, 2, 0, 0,
            6, 0, 0, 0, 1])

    def test_the_die(self):
        self.assertEqual(last(*DIE, KINDS), [
            5,
            1, 6, 0, 0, 0, 0, 0,
            3, 2, 2, 0, 0, 0, 0,
            6, 2, 0, 0, 1, 0, 0,
            6, 0, 3, 0, 0, 0, 0,
            8, 0, 0, 2, 0, 0, 0])

    def test_the_necklace_of_six(self):
        self.assertEqual(last(*NECKLACE_OF_SIX, KINDS), [
            5,
            1, 6, 0, 0, 0, 0, 0,
            3, 2, 2, 0, 0, 0, 0,
            4, 0, 3, 0, 0, 0, 0,
            2, 0, 0, 2, 0, 0, 0,
            2, 0, 0, 0, 0, 0, 1])

    def test_as_many_of_length_1_and_2_then_more_of_length_3_first(self):
        self.assertEqual(last(places(10), turn(1, 2, 3, 4, 5, 6, 7, 8, 9, 0), KINDS), [
            4,
            1, 10, 0, 0, 0, 0, 0, 0, 0, 0, 0,
            1, 0, 5, 0, 0, 0, 0, 0, 0, 0, 0,
            4, 0, 0, 0, 0, 2, 0, 0, 0, 0, 0,
            4, 0, 0, 0, 0, 0, 0, 0, 0, 0, 1])


if __name__ == "__main__":
    unittest.main()
