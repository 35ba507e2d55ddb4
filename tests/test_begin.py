"""Promise 1: begin."""

import unittest

from cornerfigures.desk import answers
from helpers import about, ask, begin, corners, hull

TRIANGLE = [(0, 0), (3, 0), (0, 3)]


class Begin(unittest.TestCase):
    def test_answers_0(self):
        self.assertEqual(answers(begin()), [1, 0])

    def test_leaves_nothing_in_any_of_the_eight_places(self):
        for slot in range(8):
            self.assertEqual(ask(corners(slot), about(slot)), [[-1], [-1]])

    def test_there_are_the_places_0_to_7(self):
        for slot in range(8):
            self.assertEqual(ask(hull(slot, TRIANGLE), corners(slot))[1], [6, 0, 0, 3, 0, 0, 3])
        for slot in (-1, 8):
            self.assertEqual(ask(hull(slot, TRIANGLE), corners(slot)), [[-1], [-1]])

    def test_each_place_holds_its_own(self):
        puts = [hull(slot, [(0, 0), (slot + 1, 0), (0, 1)]) for slot in range(8)]
        asked = [corners(slot) for slot in range(8)]
        told = ask(*(puts + asked))
        for slot in range(8):
            self.assertEqual(told[8 + slot], [6, 0, 0, slot + 1, 0, 0, 1])

    def test_coming_again_empties_all_places(self):
        puts = [hull(slot, TRIANGLE) for slot in range(8)]
        asked = [about(slot) for slot in range(8)]
        told = ask(*(puts + asked + [begin()] + asked + [hull(2, TRIANGLE), about(2), begin(), begin()]))
        self.assertEqual(told[8:16], [[0, 9, 9, 1, 3]] * 8)
        self.assertEqual(told[16:25], [[0]] + [[-1]] * 8)
        self.assertEqual(told[25:], [[3], [0, 9, 9, 1, 3], [0], [0]])


if __name__ == "__main__":
    unittest.main()
