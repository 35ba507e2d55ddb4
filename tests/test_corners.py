"""Promise 4: corners; and promise 3, as far as it's about corners."""

import unittest

from helpers import ask, corners, hull

TRIANGLE = [(-3, 0), (3, -20), (0, 3)]
TOLD = [6, 4294967293, 0, 3, 4294967276, 0, 3]


class Corners(unittest.TestCase):
    def test_how_many_numbers_then_x_and_y_of_each(self):
        self.assertEqual(ask(hull(0, TRIANGLE), corners(0))[1], TOLD)
        square = [(0, 0), (2, 0), (2, 2), (0, 2)]
        self.assertEqual(ask(hull(0, square), corners(0))[1], [8, 0, 0, 2, 0, 2, 2, 0, 2])

    def test_most_just_enough_and_one_too_few(self):
        told = ask(hull(0, TRIANGLE), corners(0, 6), corners(0, 5), corners(0, 7))
        self.assertEqual(told[1:], [TOLD, [-2], TOLD])
        eight = [(1, 0), (2, 0), (3, 1), (3, 2), (2, 3), (1, 3), (0, 2), (0, 1)]
        told = ask(hull(0, eight), corners(0, 16), corners(0, 15))
        self.assertEqual(told[1][0], 16)
        self.assertEqual(len(told[1]), 17)
        self.assertEqual(told[2], [-2])

    def test_most_at_the_ends_of_its_range_and_beyond(self):
        for most in (1048576, 1048575):
            self.assertEqual(ask(hull(0, TRIANGLE), corners(0, most))[1], TOLD)
        for most in (1048577, 2147483647, 1, 0, -1, -6, -2147483648):
            self.assertEqual(ask(hull(0, TRIANGLE), corners(0, most))[1], [-2])

    def test_no_place_and_nothing_there(self):
        for slot in (-1, 8, 2147483647, -2147483648, 1, 7):
            self.assertEqual(ask(hull(0, TRIANGLE), corners(slot))[1], [-1])

    def test_minus_1_is_looked_at_ahead_of_minus_2(self):
        for most in (0, -1, 5, 1048577):
            self.assertEqual(ask(corners(0, most), corners(8, most), corners(-1, most)), [[-1]] * 3)

    def test_nothing_changes(self):
        told = ask(hull(0, TRIANGLE), corners(0), corners(0, 0), corners(1), corners(0), corners(1))
        self.assertEqual(told[1:], [TOLD, [-2], [-1], TOLD, [-1]])


if __name__ == "__main__":
    unittest.main()
