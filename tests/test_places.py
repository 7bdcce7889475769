"""The call places."""

import unittest

from lines import FAR_OUT, GROUP, KINDS, ORBITS, answered, count, last, places, turn


class Places(unittest.TestCase):
    def test_one_to_ten_are_answered(self):
        for n in range(1, 11):
            self.assertEqual(answered(places(n), GROUP), [[n], [1, *range(n)]])

    def test_what_is_not_one_to_ten_is_refused(self):
        for n in (0, 11, -1, 12, -10, 100, *FAR_OUT):
            self.assertEqual(answered(places(n)), [[-1]])

    def test_one_place_is_there_at_the_beginning(self):
        self.assertEqual(
            answered(GROUP, ORBITS, KINDS, count(5), turn(0), turn(), turn(0, 1), turn(1)),
            [[1, 0], [1, 1, 0], [1, 1, 1], [5], [1], [-1], [-1], [-1]])

    def test_places_anew_forget_the_exchanges_told(self):
        self.assertEqual(
            answered(places(3), turn(1, 2, 0), places(3), GROUP, turn(1, 0, 2), GROUP),
            [[3], [3], [3], [1, 0, 1, 2], [2], [2, 0, 1, 2, 1, 0, 2]])

    def test_places_anew_with_another_number(self):
        self.assertEqual(
            answered(places(3), turn(1, 2, 0), places(2), ORBITS, turn(1, 2, 0), turn(1, 0), count(2)),
            [[3], [3], [2], [2, 1, 0, 1, 1], [-1], [2], [3]])

    def test_a_refusal_leaves_all_as_it_was(self):
        for n in (0, 11, *FAR_OUT):
            self.assertEqual(
                answered(places(3), turn(1, 2, 0), places(n), GROUP, turn(1, 0, 2)),
                [[3], [3], [-1], [3, 0, 1, 2, 1, 2, 0, 2, 0, 1], [6]])

    def test_a_refusal_at_the_beginning_leaves_the_one_place(self):
        self.assertEqual(answered(places(0), GROUP, places(11), count(9)), [[-1], [1, 0], [-1], [9]])
        self.assertEqual(last(places(11), ORBITS), [1, 1, 0])


if __name__ == "__main__":
    unittest.main()
