"""The call count."""

import itertools
import unittest

from lines import (
    BOARD_OF_NINE, DIE, FAR_OUT, GROUP, KINDS, NECKLACE_OF_EIGHT, ORBITS, TWO_HUNDRED, all_made, answered, count,
    last, moved, places, turn)


class Count(unittest.TestCase):
    def test_necklaces(self):
        self.assertEqual(
            answered(*NECKLACE_OF_EIGHT, count(0), count(1), count(2), count(3))[2:],
            [[16], [0], [1], [30], [498]])

    def test_dice(self):
        self.assertEqual(answered(*DIE, count(1), count(2), count(3), count(6))[3:], [[1], [10], [57], [2226]])

    def test_boards(self):
        self.assertEqual(answered(*BOARD_OF_NINE, count(2), count(3))[2:], [[8], [102], [2862]])

    def test_the_edges_of_k(self):
        self.assertEqual(answered(count(0), count(1), count(1000)), [[0], [1], [1000]])
        self.assertEqual(answered(places(10), count(0), count(1), count(1000))[1:], [[0], [1], [10 ** 30]])
        self.assertEqual(last(places(2), turn(1, 0), count(1000)), [500500])

    def test_what_is_not_0_to_1000_is_refused(self):
        for k in (-1, 1001, -1000, *FAR_OUT):
            self.assertEqual(answered(count(k)), [[-1]])
            self.assertEqual(
                answered(places(2), turn(1, 0), count(k), GROUP, count(3))[2:],
                [[-1], [2, 0, 1, 1, 0], [6]])

    def test_of_a_group_of_two_hundred(self):
        # Two necklaces that may be swapped: of c kinds of each there are c * (c + 1) / 2 pairs.
        self.assertEqual(answered(*TWO_HUNDRED, count(2), count(3))[3:], [[200], [8 * 9 // 2], [39 * 40 // 2]])


def ring_lengths(exchange):
    """How many rings of each length, from where each place comes back to itself."""
    comes_back = []
    for place in range(len(exchange)):
        at, steps = exchange[place], 1
        while at != place:
            at, steps = exchange[at], steps + 1
        comes_back.append(steps)
    return tuple(comes_back.count(length) // length for length in range(1, len(exchange) + 1))


class AgainstAllOneByOne(unittest.TestCase):
    """Every two exchanges of up to four places, held against what is made one by one."""

    def compare(self, n, told):
        group = all_made(told, n)
        answer = answered(places(n), *[turn(*one) for one in told], GROUP, ORBITS, KINDS, count(2), count(3))
        got = answer[len(told):]
        self.assertEqual(got[0], [len(group)] if told else [n])
        self.assertEqual(got[1], [len(group), *itertools.chain(*group)])
        orbits = sorted({tuple(sorted({g[place] for g in group})) for place in range(n)})
        self.assertEqual(got[2], [len(orbits), *itertools.chain(*[(len(o), *o) for o in orbits])])
        kinds = [ring_lengths(g) for g in group]
        ordered = sorted(set(kinds), reverse=True)
        self.assertEqual(got[3], [len(ordered), *itertools.chain(*[(kinds.count(k), *k) for k in ordered])])
        for k, counted in ((2, got[4]), (3, got[5])):
            colourings = itertools.product(range(k), repeat=n)
            firsts = {min(moved(colouring, g) for g in group) for colouring in colourings}
            self.assertEqual(counted, [len(firsts)])

    def test_none_and_one_told(self):
        for n in range(1, 6):
            self.compare(n, [])
            for exchange in itertools.permutations(range(n)):
                self.compare(n, [exchange])

    def test_two_told(self):
        for n in range(1, 5):
            for told in itertools.product(itertools.permutations(range(n)), repeat=2):
                self.compare(n, list(told))


if __name__ == "__main__":
    unittest.main()
