"""Promise 2: hull, and what the words say of a figure."""

import unittest
from itertools import combinations

from helpers import ask, bend, corner_list, corners, flat, hull, raw_hull, strewn

TRIANGLE = [(0, 0), (3, 0), (0, 3)]


def plain_hull(points):
    """By the words alone: from each corner goes the one edge that leaves all points to its left."""
    points = sorted(set(points))
    ahead = {}
    for p in points:
        for q in points:
            if p != q and all(bend(p, q, r) > 0 or (bend(p, q, r) == 0 and between(p, q, r)) for r in points):
                ahead[p] = q
    corner = min(ahead)
    found = []
    while corner not in found:
        found.append(corner)
        corner = ahead[corner]
    return found


def between(p, q, r):
    return min(p, q) <= r <= max(p, q)


def on_one_line(points):
    return all(bend(p, q, r) == 0 for p, q, r in combinations(points, 3))


class Hull(unittest.TestCase):
    def hull_of(self, points):
        told = ask(hull(0, points), corners(0))
        found = corner_list(told[1])
        self.assertEqual(told[0], [len(found)])
        return found

    def test_from_the_first_corner_on_round_to_the_left(self):
        square = [(-1, 2), (4, 2), (4, 7), (-1, 7)]
        self.assertEqual(self.hull_of(square), square)
        self.assertEqual(self.hull_of(square[::-1]), square)
        self.assertEqual(self.hull_of(square[2:] + square[:2]), square)

    def test_the_first_is_the_one_of_least_x_and_then_of_least_y(self):
        self.assertEqual(self.hull_of([(0, -20), (-5, 3), (-5, -3), (5, 0)]), [(-5, -3), (0, -20), (5, 0), (-5, 3)])
        self.assertEqual(self.hull_of([(0, -9), (9, 0), (0, 9), (-9, 0)]), [(-9, 0), (0, -9), (9, 0), (0, 9)])

    def test_doubles_and_points_at_the_rim_and_inside_are_no_corners(self):
        corner = [(0, 0), (6, 0), (6, 6), (0, 6)]
        rim = [(3, 0), (6, 1), (5, 6), (0, 2), (0, 4)]
        inside = [(1, 1), (3, 3), (5, 2)]
        points = inside + rim + corner + corner[:2] + rim[:2] + inside[:1]
        for turned in range(len(points)):
            self.assertEqual(self.hull_of(points[turned:] + points[:turned]), corner)

    def test_all_choices_of_few_points(self):
        grid = [(x, y) for x in (-1, 0, 1) for y in (-1, 0, 1)]
        for count in range(1, 10):
            for points in combinations(grid, count):
                if on_one_line(points):
                    self.assertEqual(ask(hull(0, points), corners(0)), [[-2], [-1]])
                else:
                    self.assertEqual(self.hull_of(points), plain_hull(points))

    def test_points_strewn_over_the_whole_sheet(self):
        for seed in range(1, 60):
            points = strewn(seed, 3 + seed)
            self.assertEqual(self.hull_of(points), plain_hull(points))
            self.assertEqual(self.hull_of(points[::-1]), plain_hull(points))

    def test_what_lay_there_is_replaced(self):
        told = ask(hull(7, TRIANGLE), hull(7, [(0, 0), (1, 0), (1, 1), (0, 1)]), corners(7))
        self.assertEqual(told, [[3], [4], [8, 0, 0, 1, 0, 1, 1, 0, 1]])


class HowManyNumbers(unittest.TestCase):
    def test_126_and_128(self):
        grid = [(x, y) for x in range(8) for y in range(8)]
        self.assertEqual(ask(hull(0, grid), corners(0)), [[4], [8, 0, 0, 7, 0, 7, 7, 0, 7]])
        self.assertEqual(ask(hull(0, grid[:63]), corners(0)), [[5], [10, 0, 0, 7, 0, 7, 6, 6, 7, 0, 7]])

    def test_none(self):
        self.assertEqual(ask(raw_hull(0, [])), [[-1]])
        self.assertEqual(ask(raw_hull(0, []), hull(0, TRIANGLE), raw_hull(3, [])), [[-1], [3], [-1]])

    def test_one_point_and_two(self):
        self.assertEqual(ask(hull(0, [(5, 5)])), [[-2]])
        self.assertEqual(ask(hull(0, [(5, 5), (6, 7)])), [[-2]])

    def test_odd(self):
        for count in (3, 5, 7, 63, 125, 127):
            numbers = (flat(TRIANGLE) * 22)[:count]
            self.assertEqual(ask(raw_hull(0, numbers), corners(0)), [[-1], [-1]])

    def test_too_many(self):
        self.assertEqual(ask(raw_hull(0, (flat(TRIANGLE) * 22)[:130])), [[-1]])


class WhichNumbers(unittest.TestCase):
    def test_those_below_0_are_handed_in_and_told_as_4294967296_more(self):
        told = ask(raw_hull(0, [4294967295, 0, 0, 4294967276, 20, 20]), corners(0))
        self.assertEqual(told, [[3], [6, 4294967295, 0, 0, 4294967276, 20, 20]])

    def test_beyond_30000_either_way(self):
        for number in (30001, 100000, 2147483647, 2147483648, 4294900000, 4294937295):
            for where in range(6):
                numbers = [0, 0, 3, 0, 0, 3]
                numbers[where] = number
                self.assertEqual(ask(raw_hull(0, numbers), corners(0)), [[-1], [-1]])

    def test_beyond_30000_inside_a_long_list(self):
        numbers = flat(TRIANGLE) * 21
        numbers[-1] = 30001
        self.assertEqual(ask(raw_hull(0, numbers)), [[-1]])

    # Between 20 and 30000 nothing is handed in; the bounds of the promise hold all the same.
    def test_30000_either_way(self):
        numbers = [4294937296, 4294937296, 30000, 4294937296, 30000, 30000]
        self.assertEqual(ask(raw_hull(0, numbers), corners(0)), [[3], [6] + numbers])


class Refusals(unittest.TestCase):
    def test_places(self):
        for slot in (-1, 8, 9, -8, 2147483647, -2147483648):
            self.assertEqual(ask(hull(slot, TRIANGLE)), [[-1]])

    def test_all_points_on_one_line(self):
        for step in ((1, 0), (0, 1), (1, 1), (2, -3), (-1, 5)):
            points = [(k * step[0], k * step[1]) for k in (0, 3, -2, 1, 3, -4)]
            self.assertEqual(ask(hull(0, points), corners(0)), [[-2], [-1]])

    def test_all_points_the_same(self):
        for count in (1, 2, 3, 64):
            self.assertEqual(ask(hull(0, [(-7, 4)] * count), corners(0)), [[-2], [-1]])

    def test_minus_1_is_looked_at_ahead_of_minus_2(self):
        line = [0, 0, 1, 1, 2, 2]
        self.assertEqual(ask(raw_hull(8, line)), [[-1]])
        self.assertEqual(ask(raw_hull(0, line[:5])), [[-1]])
        self.assertEqual(ask(raw_hull(0, line + [30001, 30001])), [[-1]])
        self.assertEqual(ask(raw_hull(0, [30001, 0, 30001, 1])), [[-1]])

    def test_nothing_changes_behind_one(self):
        wrong = [hull(0, [(0, 0), (1, 1)]), raw_hull(0, [0, 0, 1]), raw_hull(0, []),
                 raw_hull(0, [0, 0, 9, 0, 0, 30001]), hull(8, [(0, 0), (9, 0), (0, 9)]),
                 hull(-1, [(0, 0), (9, 0), (0, 9)])]
        for call in wrong:
            asked = [corners(slot) for slot in range(8)]
            told = ask(hull(0, TRIANGLE), hull(7, TRIANGLE), call, *asked)
            lies = [6, 0, 0, 3, 0, 0, 3]
            self.assertEqual(told[3:], [lies] + [[-1]] * 6 + [lies])
            self.assertIn(told[2], ([-1], [-2]))


if __name__ == "__main__":
    unittest.main()
