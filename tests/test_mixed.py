"""Promise 7: mixed; and promise 3, as far as it's about mixed."""

import unittest

from helpers import about, added, ask, corner_list, corners, dual, hull, mixed, sides, strewn, total

SQUARE = [(0, 0), (2, 0), (2, 2), (0, 2)]
TRIANGLE = [(0, 0), (3, 0), (0, 3)]
TURNED = [(0, 0), (-3, 0), (0, -3)]
DIAMOND = [(-1, 0), (0, -1), (1, 0), (0, 1)]


def in_common(first, second):
    """What two figures have together, by its words."""
    return sum(max(p * (v - y) - q * (u - x) for p, q in first) for x, y, u, v, g in sides(second))


def double_area(figure):
    return sum(x * v - y * u for x, y, u, v, g in sides(figure))


class Mixed(unittest.TestCase):
    def check(self, first, second):
        """Both ways round it's what the words say, and half of what the sum's area has beyond both areas."""
        told = ask(hull(0, first), hull(1, second), corners(0), corners(1), mixed(0, 1), mixed(1, 0))
        first, second = corner_list(told[2]), corner_list(told[3])
        more = double_area(added(first, second)) - double_area(first) - double_area(second)
        self.assertEqual(told[4], [0, in_common(first, second)])
        self.assertEqual(told[4], [0, more // 2])
        self.assertEqual(told[5], told[4])
        return told[4][1]

    def test_two_figures(self):
        self.assertEqual(self.check(SQUARE, DIAMOND), 8)
        self.assertEqual(self.check(SQUARE, TRIANGLE), 12)
        self.assertEqual(self.check(TRIANGLE, DIAMOND), 9)
        self.assertEqual(self.check([(0, 0), (5, 0), (5, 1), (0, 1)], [(0, 0), (1, 0), (1, 7), (0, 7)]), 36)

    def test_the_same_way_and_the_other_way(self):
        self.assertEqual(self.check(TRIANGLE, TRIANGLE), 9)
        self.assertEqual(self.check(TRIANGLE, TURNED), 18)

    def test_how_many_solutions_two_equations_have_in_common(self):
        # All powers up to m in all, and up to n: m * n solutions.
        for m in (1, 2, 5, 20):
            for n in (1, 3, 7, 20):
                self.assertEqual(self.check([(0, 0), (m, 0), (0, m)], [(0, 0), (n, 0), (0, n)]), m * n)

    def test_figures_strewn_over_the_sheet(self):
        for seed in range(1, 60):
            self.check(strewn(seed, 3 + seed % 11), strewn(seed * 1000, 4 + seed % 13))

    def test_against_the_sum_that_is_put_there(self):
        for seed in range(1, 30):
            told = ask(hull(0, strewn(seed, 4)), hull(1, strewn(seed + 500, 9)), total(0, 1, 2),
                       about(0), about(1), about(2), mixed(0, 1))
            self.assertEqual(told[6], [0, (told[5][1] - told[4][1] - told[3][1]) // 2])

    def test_of_a_figure_with_itself(self):
        for seed in range(1, 30):
            told = ask(hull(6, strewn(seed, 3 + seed % 20)), mixed(6, 6), about(6))
            self.assertEqual(told[1], told[2][:2])

    def test_it_is_no_matter_where_the_two_lie(self):
        for a, b in ((17, 0), (-20, -20), (0, 18), (-13, 17)):
            shifted = [(x + a, y + b) for x, y in SQUARE]
            self.assertEqual(self.check(shifted, TRIANGLE), 12)
            self.assertEqual(self.check(TRIANGLE, shifted), 12)

    def test_the_whole_sheet(self):
        sheet = [(-20, -20), (20, -20), (20, 20), (-20, 20)]
        self.assertEqual(self.check(sheet, sheet), 3200)
        self.assertEqual(self.check(sheet, [(-20, -20), (20, -20), (-20, 20)]), 3200)

    def test_of_sums_and_duals(self):
        told = ask(hull(0, SQUARE), hull(1, TRIANGLE), total(0, 1, 2), total(2, 2, 3), mixed(2, 1), mixed(3, 0),
                   hull(4, DIAMOND), dual(4, 5), mixed(5, 4), mixed(3, 5))
        # Of a sum it's what the one has and what the other one has.
        self.assertEqual(told[4:6], [[0, 12 + 9], [0, 2 * (8 + 12)]])
        self.assertEqual(told[7:], [[4], [0, 8], [0, 2 * (8 + 12)]])


class Places(unittest.TestCase):
    def test_places_0_and_7(self):
        told = ask(hull(0, SQUARE), hull(7, TRIANGLE), mixed(0, 7), mixed(7, 0), mixed(7, 7), mixed(0, 0))
        self.assertEqual(told[2:], [[0, 12], [0, 12], [0, 9], [0, 8]])

    def test_no_place_and_nothing_there(self):
        for wrong in (-1, 8, -2147483648, 2147483647, 1, 6):
            told = ask(hull(0, SQUARE), hull(7, TRIANGLE), mixed(wrong, 0), mixed(0, wrong), mixed(wrong, wrong))
            self.assertEqual(told[2:], [[-1]] * 3)

    def test_nothing_changes(self):
        asked = [corners(slot) for slot in range(8)]
        told = ask(hull(0, SQUARE), hull(7, TRIANGLE), *(asked + [mixed(0, 7), mixed(7, 1), mixed(8, 0)] + asked))
        self.assertEqual(told[10:13], [[0, 12], [-1], [-1]])
        self.assertEqual(told[2:10], told[13:])


if __name__ == "__main__":
    unittest.main()
