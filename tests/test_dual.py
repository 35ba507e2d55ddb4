"""Promise 10: dual; and promise 3, as far as it's about dual."""

import unittest
from itertools import combinations

from helpers import about, ask, bend, corner_list, corners, dual, hull, room, sides, strewn, total, wrapped

SQUARE = [(-1, -1), (1, -1), (1, 1), (-1, 1)]
DIAMOND = [(-1, 0), (0, -1), (1, 0), (0, 1)]
TRIANGLE = [(-1, -1), (2, -1), (-1, 2)]
# 0 isn't in it, but each of its edges is one step from 0, two of them with 0 to the right.
BESIDE = [(0, 1), (1, 0), (1, 1)]


def only_0_inside(figure):
    """Whether 0 is the one whole point inside: then, and only then, all edges are one step from 0."""
    inside = []
    for x in range(min(x for x, y in figure), max(x for x, y in figure) + 1):
        for y in range(min(y for x, y in figure), max(y for x, y in figure) + 1):
            if all(bend(figure[k - 1], figure[k], (x, y)) > 0 for k in range(len(figure))):
                inside.append((x, y))
    return inside == [(0, 0)]


def opposite(figure):
    """The dual another way: the hull of all whole (a, b) with a*x + b*y of -1 or more at all corners."""
    far = max(abs(x - u) + abs(y - v) for x, y, u, v, g in sides(figure))
    around = range(-far, far + 1)
    return wrapped([(a, b) for a in around for b in around if all(a * x + b * y >= -1 for x, y in figure)])


def sheared(figure, a, b, c, d):
    return [(a * x + b * y, c * x + d * y) for x, y in figure]


class Dual(unittest.TestCase):
    def check(self, points):
        """What's answered, and what lies there then; the dual, or None if there is none."""
        told = ask(hull(3, points), corners(3), dual(3, 5), corners(5), corners(3), dual(5, 6), corners(6))
        figure = corner_list(told[1])
        self.assertEqual(told[4], told[1])
        if not only_0_inside(figure):
            self.assertEqual(told[2:4] + told[5:], [[-2], [-1], [-1], [-1]])
            return None
        found = corner_list(told[3])
        self.assertEqual(found, opposite(figure))
        self.assertEqual(told[2], [len(figure)])
        self.assertEqual(told[5:], [[len(figure)], told[1]])
        return found

    def test_edges_of_one_step(self):
        self.assertEqual(self.check(DIAMOND), [(-1, -1), (1, -1), (1, 1), (-1, 1)])
        self.assertEqual(self.check([(-1, -1), (1, 0), (0, 1)]), [(-1, -1), (2, -1), (-1, 2)])
        self.assertEqual(self.check([(-1, 0), (0, -1), (1, 0), (1, 1), (0, 1)]),
                         [(-1, 0), (0, -1), (1, -1), (1, 1), (-1, 1)])

    def test_edges_of_several_steps(self):
        self.assertEqual(self.check(SQUARE), DIAMOND)
        self.assertEqual(self.check(TRIANGLE), [(-1, -1), (1, 0), (0, 1)])
        self.assertEqual(self.check([(-1, -1), (3, -1), (-1, 1)]), [(-1, -2), (1, 0), (0, 1)])

    def test_all_figures_of_nine_points(self):
        grid = [(x, y) for x in (-1, 0, 1) for y in (-1, 0, 1)]
        found = []
        for count in range(3, 10):
            for points in combinations(grid, count):
                if wrapped(points):
                    found.append(self.check(points))
        self.assertGreater(len([figure for figure in found if figure]), 100)
        self.assertGreater(found.count(None), 100)

    def test_all_triangles_round_0_of_a_larger_grid(self):
        grid = [(x, y) for x in range(-2, 4) for y in range(-2, 3)]
        found = []
        for points in combinations(grid, 3):
            if wrapped(points) and all(bend(p, q, (0, 0)) for p, q in combinations(points, 2)):
                found.append(self.check(points))
        self.assertGreater(len([figure for figure in found if figure]), 20)

    def test_figures_that_are_far_from_round(self):
        five = [(-1, 0), (0, -1), (1, 0), (1, 1), (0, 1)]
        for figure in (SQUARE, DIAMOND, TRIANGLE, [(-1, -1), (3, -1), (-1, 1)], five):
            for turn in ((1, 5, 0, 1), (3, 2, 4, 3), (0, -1, 1, 6), (5, -2, -2, 1), (-4, 3, 1, -1), (0, 1, 1, 0)):
                self.assertIsNotNone(self.check(sheared(figure, *turn)))

    def test_figures_strewn_over_the_sheet(self):
        for seed in range(1, 60):
            points = strewn(seed, 4 + seed % 9)
            self.assertIsNone(self.check(points))
            small = [(x // 13, y // 13) for x, y in points]
            if wrapped(small):
                self.check(small)

    def test_the_points_at_both_rims_are_twelve(self):
        for figure in (SQUARE, DIAMOND, TRIANGLE, [(-1, -1), (3, -1), (-1, 1)]):
            told = ask(hull(0, figure), dual(0, 1), about(0), about(1))
            self.assertEqual(told[2][2] + told[3][2], 12)
            self.assertEqual((told[2][3], told[3][3]), (1, 1))

    def test_it_is_told_round_to_the_left_from_the_first_on(self):
        told = ask(hull(0, [(-1, 1), (0, -1), (1, 0)]), dual(0, 1), corners(1))
        self.assertEqual(told[1:], [[3], [6, 4294967295, 4294967294, 2, 1, 4294967295, 1]])


class NotOneStep(unittest.TestCase):
    def refused(self, points):
        told = ask(hull(0, points), hull(1, DIAMOND), corners(0), corners(1), dual(0, 1), dual(0, 0), dual(0, 7),
                   corners(0), corners(1), corners(7))
        self.assertEqual(told[4:7], [[-2]] * 3)
        self.assertEqual(told[7:], told[2:4] + [[-1]])

    def test_one_edge_alone(self):
        # Of the first four each edge in turn, so the first one and the last one that's looked at, too.
        for points in ([(-2, -1), (1, -1), (1, 1), (-2, 1)], [(-1, -2), (1, -2), (1, 1), (-1, 1)],
                       [(-1, -1), (2, -1), (2, 1), (-1, 1)], [(-1, -1), (1, -1), (1, 2), (-1, 2)],
                       [(-1, -2), (1, -2), (0, 1)], [(-1, -1), (1, 0), (2, 3)]):
            far = [side for side in sides(points) if side[0] * side[3] - side[1] * side[2] != side[4]]
            self.assertEqual(len(far), 1)
            self.refused(points)

    def test_0_at_the_rim(self):
        self.refused([(-1, 0), (1, 0), (0, 1)])
        self.refused([(-1, -1), (1, -1), (1, 1)])
        self.refused([(0, -1), (1, -1), (1, 1), (0, 1)])

    def test_0_is_a_corner(self):
        self.refused([(0, 0), (1, 0), (0, 1)])
        self.refused([(0, 0), (1, 0), (1, 1), (0, 1)])
        self.refused([(-1, -1), (0, -1), (0, 0)])

    def test_0_outside(self):
        self.refused([(4, 4), (6, 4), (6, 6), (4, 6)])
        self.refused([(1, 0), (2, 0), (1, 1)])
        self.refused([(-20, -20), (-18, -20), (-20, -18)])

    def test_0_outside_and_each_edge_one_step_off(self):
        for figure in (BESIDE, sheared(BESIDE, -1, 0, 0, -1), sheared(BESIDE, 1, 1, 0, 1)):
            self.assertEqual([abs(x * v - y * u) - g for x, y, u, v, g in sides(wrapped(figure))], [0, 0, 0])
            self.refused(figure)

    def test_too_large_and_all_edges_too_far(self):
        self.refused([(-2, -2), (2, -2), (2, 2), (-2, 2)])
        self.refused([(-3, 0), (0, -3), (3, 0), (0, 3)])
        self.refused([(-20, -20), (20, -20), (20, 20), (-20, 20)])


class Puts(unittest.TestCase):
    def test_at_its_own_place(self):
        told = ask(hull(4, TRIANGLE), dual(4, 4), corners(4), dual(4, 4), corners(4))
        self.assertEqual(told[1::2], [[3], [3]])
        self.assertEqual(corner_list(told[2]), [(-1, -1), (1, 0), (0, 1)])
        self.assertEqual(corner_list(told[4]), TRIANGLE)

    def test_where_another_one_lies(self):
        told = ask(hull(0, TRIANGLE), hull(7, SQUARE), dual(0, 7), corners(7), dual(7, 0), corners(0))
        self.assertEqual(corner_list(told[3]), [(-1, -1), (1, 0), (0, 1)])
        self.assertEqual(corner_list(told[5]), TRIANGLE)

    def test_it_stays_when_the_figure_itself_goes(self):
        told = ask(hull(0, TRIANGLE), dual(0, 1), corners(1), hull(0, SQUARE), corners(1))
        self.assertEqual(told[2], told[4])

    def test_of_sums_and_of_a_dual(self):
        # Two triangles, turned to each other, add up to a figure of six corners that has a dual.
        told = ask(hull(0, [(0, 0), (1, 0), (0, 1)]), hull(1, [(0, 0), (-1, 0), (0, -1)]), total(0, 1, 2),
                   dual(2, 3), corners(3), dual(3, 3), corners(3), corners(2), total(2, 2, 4), dual(4, 4), corners(4))
        self.assertEqual(told[3], [6])
        self.assertEqual(corner_list(told[4]), [(-1, -1), (0, -1), (1, 0), (1, 1), (0, 1), (-1, 0)])
        self.assertEqual(told[6], told[7])
        self.assertEqual((told[9], told[10][0]), ([-2], 12))

    def test_of_a_sum_of_a_sum(self):
        told = ask(hull(0, [(0, 0), (1, 0), (0, 1)]), total(0, 0, 1), hull(2, [(-1, -1), (0, -1), (-1, 0)]),
                   dual(1, 3), total(1, 2, 1), corners(1), dual(1, 3), corners(3), about(3))
        self.assertEqual((told[3], told[6]), ([-2], [3]))
        self.assertEqual(corner_list(told[5]), TRIANGLE)
        self.assertEqual(corner_list(told[7]), [(-1, -1), (1, 0), (0, 1)])
        self.assertEqual(told[8], [0, 3, 3, 1, 2])

    def test_a_sum_and_room_of_duals(self):
        told = ask(hull(0, SQUARE), dual(0, 1), total(1, 1, 2), corners(2), room(2, 1), room(2, 0))
        self.assertEqual(corner_list(told[3]), [(-2, 0), (0, -2), (2, 0), (0, 2)])
        self.assertEqual(told[4:], [[0, 5], [0, 1]])


class Places(unittest.TestCase):
    def test_places_0_and_7(self):
        told = ask(hull(0, SQUARE), hull(7, TRIANGLE), dual(0, 1), dual(7, 0), dual(0, 7), corners(7))
        self.assertEqual(told[2:5], [[4], [3], [3]])
        self.assertEqual(corner_list(told[5]), TRIANGLE)

    def test_no_place_and_nothing_there(self):
        for wrong in (-1, 8, -2147483648, 2147483647, 1, 6):
            told = ask(hull(0, SQUARE), hull(7, TRIANGLE), dual(wrong, 0), dual(wrong, wrong))
            self.assertEqual(told[2:], [[-1]] * 2)

    def test_none_to_put_it(self):
        for wrong in (-1, 8, -2147483648, 2147483647):
            self.assertEqual(ask(hull(0, SQUARE), dual(0, wrong))[1], [-1])

    def test_minus_1_is_looked_at_ahead_of_minus_2(self):
        for wrong in (-1, 8, -2147483648, 2147483647):
            self.assertEqual(ask(hull(0, BESIDE), dual(0, wrong), dual(0, 0))[1:], [[-1], [-2]])

    def test_nothing_changes(self):
        asked = [corners(slot) for slot in range(8)]
        told = ask(hull(0, SQUARE), hull(7, BESIDE),
                   *(asked + [dual(0, 8), dual(0, -1), dual(1, 0), dual(7, 0), dual(7, 1), dual(8, 0)] + asked))
        self.assertEqual(told[10:16], [[-1], [-1], [-1], [-2], [-2], [-1]])
        self.assertEqual(told[2:10], told[16:])


if __name__ == "__main__":
    unittest.main()
