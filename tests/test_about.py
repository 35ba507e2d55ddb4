"""Promise 5: about; and promise 3, as far as it's about about."""

import unittest
from itertools import combinations

from helpers import about, ask, bend, corner_list, corners, hull, strewn, total


def counted(figure):
    """The points at the rim and inside, counted one by one."""
    rim = 0
    inside = 0
    xs = [x for x, y in figure]
    ys = [y for x, y in figure]
    for x in range(min(xs), max(xs) + 1):
        for y in range(min(ys), max(ys) + 1):
            least = min(bend(figure[k - 1], figure[k], (x, y)) for k in range(len(figure)))
            rim += least == 0
            inside += least > 0
    return [rim, inside]


def cut_up(figure):
    """Twice the area, by the triangles at the first corner."""
    return sum(abs(bend(figure[0], figure[k], figure[k + 1])) for k in range(1, len(figure) - 1))


def tried(figure, farthest):
    """The width, by all directions of numbers up to farthest."""
    best = None
    for a in range(farthest + 1):
        for b in range(-farthest, farthest + 1):
            heights = [a * x + b * y for x, y in figure]
            if (a, b) != (0, 0) and (best is None or max(heights) - min(heights) < best):
                best = max(heights) - min(heights)
    return best


class About(unittest.TestCase):
    def about_hull(self, points):
        told = ask(hull(0, points), about(0), corners(0))
        return told[1], corner_list(told[2])

    def test_all_four_numbers(self):
        self.assertEqual(self.about_hull([(0, 0), (1, 0), (0, 1)])[0], [0, 1, 3, 0, 1])
        self.assertEqual(self.about_hull([(0, 0), (3, 0), (0, 3)])[0], [0, 9, 9, 1, 3])
        self.assertEqual(self.about_hull([(-2, -1), (4, -1), (4, 3), (-2, 3)])[0], [0, 48, 20, 15, 4])
        self.assertEqual(self.about_hull([(0, 0), (6, 2), (2, 6)])[0], [0, 32, 8, 13, 6])

    def test_the_whole_sheet(self):
        told = self.about_hull([(-20, -20), (20, -20), (20, 20), (-20, 20)])[0]
        self.assertEqual(told, [0, 3200, 160, 39 * 39, 40])

    def test_triangles_of_few_points(self):
        grid = [(x, y) for x in range(4) for y in range(4)]
        for points in combinations(grid, 3):
            if bend(*points) != 0:
                told, figure = self.about_hull(points)
                self.assertEqual(told, [0, cut_up(figure)] + counted(figure) + [tried(figure, 8)])

    def test_figures_strewn_over_the_sheet(self):
        for seed in range(1, 25):
            points = strewn(seed, 3 + seed % 9)
            told, figure = self.about_hull(points)
            self.assertEqual(told, [0, cut_up(figure)] + counted(figure) + [tried(figure, 30)])

    def test_thin_figures(self):
        # Sheared so that the direction of the width is far from both axes.
        for a, b, c, d in ((2, 3, 3, 5), (5, 8, 8, 13), (3, -7, -2, 5), (1, 0, 9, 1), (-4, 9, -3, 7)):
            for wide, high in ((1, 1), (1, 2), (2, 1), (1, 0)):
                points = [(a * x + c * y, b * x + d * y)
                          for x, y in ((0, 0), (wide, 0), (0, 1), (wide, high), (-1, 0))]
                points = [(x, y) for x, y in points if abs(x) <= 20 and abs(y) <= 20]
                told, figure = self.about_hull(points)
                self.assertEqual(told[1:4], [cut_up(figure)] + counted(figure))
                self.assertEqual(told[4], tried(figure, 40))

    def test_width_in_a_direction_along_no_axis(self):
        # (5, -3) is such a direction: the corners' heights there are 0, 1 and 1.
        self.assertEqual(self.about_hull([(0, 0), (5, 8), (8, 13)])[0], [0, 1, 3, 0, 1])
        # (1, -1), and along an axis 20.
        self.assertEqual(self.about_hull([(-10, -10), (-8, -10), (10, 8), (10, 10), (8, 10), (-10, -8)])[0][4], 4)
        # (1, 1)
        self.assertEqual(self.about_hull([(0, 9), (9, 0), (10, 1), (1, 10)])[0][4], 2)
        # (2, -1): heights 0 to 3.
        self.assertEqual(self.about_hull([(0, 0), (10, 20), (11, 19), (1, -1)])[0][4], 3)

    def test_of_a_sum(self):
        told = ask(hull(0, [(-20, -20), (20, -20), (20, 20)]), total(0, 0, 1), total(1, 1, 2), about(2))
        self.assertEqual(told[3], [0, 160 * 160, 480, (160 * 160 - 480 + 2) // 2, 160])

    def test_no_place_and_nothing_there(self):
        for slot in (-1, 8, 2147483647, -2147483648, 0, 7):
            self.assertEqual(ask(hull(3, [(0, 0), (1, 0), (0, 1)]), about(slot))[1], [-1])

    def test_nothing_changes(self):
        told = ask(hull(3, [(0, 0), (1, 0), (0, 1)]), about(3), about(2), about(3), corners(3), corners(2))
        self.assertEqual(told[1:], [[0, 1, 3, 0, 1], [-1], [0, 1, 3, 0, 1], [6, 0, 0, 1, 0, 0, 1], [-1]])


if __name__ == "__main__":
    unittest.main()
