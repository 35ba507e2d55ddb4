"""Promise 8: parts; and promise 3, as far as it's about parts."""

import unittest
from itertools import product

from helpers import (about, ask, corner_list, corners, dual, hull, parts, quarter_turns, sides, strewn, total, walk,
                     wrapped)

SQUARE = [(0, 0), (2, 0), (2, 2), (0, 2)]
TRIANGLE = [(0, 0), (3, 0), (0, 3)]
DIAMOND = [(-1, 0), (0, -1), (1, 0), (0, 1)]
# Steps of six lengths, turned: 24 edges of one step each, no two of them along each other.
SIX = [(1, 0), (1, 1), (2, 1), (1, 2), (3, 1), (1, 3)]


def tried(figure):
    """All choices, one by one: of each edge how many steps."""
    found = 0
    steps = [((u - x) // g, (v - y) // g) for x, y, u, v, g in sides(figure)]
    for choice in product(*[range(g + 1) for x, y, u, v, g in sides(figure)]):
        across = sum(k * step[0] for k, step in zip(choice, steps))
        up = sum(k * step[1] for k, step in zip(choice, steps))
        found += (across, up) == (0, 0)
    return found


def how_many_choices(figure):
    count = 1
    for side in sides(figure):
        count *= side[4] + 1
    return count


def multiplied(figure):
    """The same number as of a product of polynomials, all of whose terms are written in one long number."""
    high = 1000
    term = 40
    written = 1
    none = 0
    for x, y, u, v, g in sides(figure):
        step = (u - x) // g * high + (v - y) // g
        lowest = min(0, g * step)
        written = sum(written << (term * (k * step - lowest)) for k in range(g + 1))
        none -= lowest
    return (written >> (term * none)) % 2 ** term


def rim(figure):
    return sum(side[4] for side in sides(figure))


class Parts(unittest.TestCase):
    def parts_of(self, points):
        """What is answered, against the words."""
        told = ask(hull(0, points), corners(0), parts(0))
        figure = corner_list(told[1])
        if rim(figure) > 24:
            self.assertEqual(told[2], [-2])
            return None
        self.assertEqual(told[2], [0, multiplied(figure)])
        if how_many_choices(figure) <= 5000:
            self.assertEqual(told[2], [0, tried(figure)])
        return told[2][1]

    def test_that_cant_be_parted(self):
        self.assertEqual(self.parts_of([(0, 0), (1, 0), (0, 1)]), 2)
        self.assertEqual(self.parts_of([(0, 0), (3, 1), (1, 3)]), 2)
        self.assertEqual(self.parts_of([(0, 0), (4, 0), (0, 7)]), 2)
        self.assertEqual(self.parts_of([(0, 0), (2, 1), (3, 3), (-1, 5)]), 2)

    def test_edges_of_one_step_with_parallel_ones(self):
        self.assertEqual(self.parts_of(DIAMOND), 4)
        self.assertEqual(self.parts_of([(0, 0), (3, 1), (4, 4), (1, 3)]), 4)
        # Of six edges in three pairs, with two triangles among them.
        self.assertEqual(self.parts_of([(0, 0), (1, 0), (2, 1), (2, 2), (1, 2), (0, 1)]), 10)

    def test_edges_of_several_steps_without_parallel_ones(self):
        for m in range(1, 9):
            self.assertEqual(self.parts_of([(0, 0), (m, 0), (0, m)]), m + 1)
        # Two steps of the one edge go with one of the other one.
        self.assertEqual(self.parts_of([(0, 0), (6, 0), (0, 3)]), 4)
        self.assertEqual(self.parts_of([(0, 0), (4, 0), (0, 6)]), 3)

    def test_edges_of_several_steps_with_parallel_ones(self):
        for m in range(1, 7):
            for n in range(1, 7):
                self.assertEqual(self.parts_of([(0, 0), (m, 0), (m, n), (0, n)]), (m + 1) * (n + 1))
        # A side that's longer than the one across from it.
        self.assertEqual(self.parts_of([(0, 0), (5, 0), (2, 3), (0, 3)]), tried([(0, 0), (5, 0), (2, 3), (0, 3)]))
        self.assertEqual(self.parts_of([(0, 0), (5, 0), (2, 3), (0, 3)]), 12)

    def test_figures_strewn_over_the_sheet(self):
        found = []
        for seed in range(1, 300):
            points = strewn(seed, 3 + seed % 6)
            if wrapped(points):
                found.append(self.parts_of(points))
        self.assertGreater(len([number for number in found if number]), 100)
        self.assertIn(None, found)

    def test_small_figures(self):
        found = []
        for seed in range(1, 200):
            points = [(x // 8, y // 8) for x, y in strewn(seed, 5 + seed % 9)]
            if wrapped(points):
                found.append(self.parts_of(points))
        self.assertGreater(len([number for number in found if number and number > 2]), 100)

    def test_it_is_no_matter_where_it_lies_or_how_it_is_turned(self):
        for points in ([(0, 0), (5, 0), (2, 3), (0, 3)], [(0, 0), (6, 0), (0, 3)]):
            number = self.parts_of(points)
            for turn in ((1, 0, 0, 1), (0, -1, 1, 0), (-1, 0, 0, -1), (0, 1, 1, 0), (1, 1, 0, 1), (2, 1, 1, 1)):
                a, b, c, d = turn
                self.assertEqual(self.parts_of([(a * x + b * y - 3, c * x + d * y + 2) for x, y in points]), number)

    def test_of_sums_and_duals(self):
        told = ask(hull(0, SQUARE), hull(1, TRIANGLE), total(0, 1, 2), parts(2), corners(2),
                   hull(3, [(-1, -1), (2, -1), (-1, 2)]), parts(3), dual(3, 4), parts(4),
                   hull(5, DIAMOND), total(5, 4, 5), parts(5), corners(5))
        self.assertEqual(told[3], [0, tried(corner_list(told[4]))])
        self.assertEqual((told[6], told[8]), ([0, 4], [0, 2]))
        self.assertEqual(told[11], [0, tried(corner_list(told[12]))])


class HowManyPoints(unittest.TestCase):
    def test_24_at_the_rim_and_25(self):
        told = ask(hull(0, [(0, 0), (16, 0), (0, 7)]), about(0), parts(0),
                   hull(1, [(0, 0), (17, 0), (0, 7)]), about(1), parts(1))
        self.assertEqual((told[1][2], told[2]), (24, [0, 2]))
        self.assertEqual((told[4][2], told[5]), (25, [-2]))

    def test_24_at_the_rim_and_edges_of_many_steps(self):
        told = ask(hull(0, [(0, 0), (8, 0), (0, 8)]), parts(0), hull(1, [(0, 0), (6, 0), (6, 6), (0, 6)]), parts(1),
                   hull(2, [(0, 0), (11, 0), (11, 1), (0, 1)]), parts(2))
        self.assertEqual((told[1], told[3], told[5]), ([0, 9], [0, 49], [0, 24]))

    def test_24_edges_of_one_step(self):
        figure = walk(quarter_turns(SIX), (-3, -13))
        told = ask(hull(0, figure), corners(0), about(0), parts(0))
        self.assertEqual((told[0], told[2][2]), ([24], 24))
        self.assertEqual(told[3], [0, multiplied(corner_list(told[1]))])
        # Of each edge and the one across from it none or both: more than that come from others.
        self.assertGreater(told[3][1], 2 ** 12)

    def test_26_and_more(self):
        for points in ([(0, 0), (12, 0), (12, 1), (0, 1)], [(0, 0), (9, 0), (0, 9)],
                       [(-20, -20), (20, -20), (20, 20), (-20, 20)]):
            self.assertEqual(ask(hull(0, points), parts(0))[1], [-2])

    def test_many_inside_are_no_matter(self):
        told = ask(hull(0, [(-20, -19), (20, -18), (-3, 20)]), about(0), parts(0))
        self.assertGreater(told[1][3], 600)
        self.assertEqual(told[2], [0, 2])

    def test_24_and_25_of_sums(self):
        twelve = [(0, 0), (6, 0), (2, 4)]
        told = ask(hull(0, twelve), about(0), total(0, 0, 1), about(1), parts(1), corners(1),
                   hull(2, [(0, 0), (6, 0), (0, 5)]), total(0, 2, 3), about(3), parts(3), corners(3))
        self.assertEqual((told[1][2], told[3][2]), (12, 24))
        self.assertEqual(told[4], [0, multiplied(corner_list(told[5]))])
        self.assertEqual((told[8][2], told[9]), (24, [0, multiplied(corner_list(told[10]))]))
        told = ask(hull(0, twelve), hull(2, [(0, 0), (7, 0), (0, 5)]), about(2), total(0, 2, 3), about(3), parts(3))
        self.assertEqual((told[2][2], told[4][2], told[5]), (13, 25, [-2]))

    def test_24_of_a_sum_of_a_sum_as_wide_as_can_be(self):
        first = [(-20, -7), (-7, -19), (19, -8), (20, 9), (8, 20), (-19, 7)]
        second = [(-20, -19), (20, -20), (19, 20), (-18, 19), (-19, 18)]
        third = [(-20, 9), (-17, -20), (17, -19), (20, -8), (17, 20), (-16, 19), (-19, 11)]
        for others, points in (([first], first), ([third, second], third)):
            told = ask(hull(0, points), hull(1, others[-1]), total(0, 1, 2), total(2, 2, 3), about(3), corners(3),
                       parts(3))
            self.assertEqual(told[4][2], 24)
            self.assertGreater(told[4][1], 30000)
            self.assertEqual(told[6], [0, multiplied(corner_list(told[5]))])


class Places(unittest.TestCase):
    def test_places_0_and_7(self):
        self.assertEqual(ask(hull(0, SQUARE), hull(7, TRIANGLE), parts(0), parts(7))[2:], [[0, 9], [0, 4]])

    def test_no_place_and_nothing_there(self):
        for wrong in (-1, 8, -2147483648, 2147483647, 0, 7):
            self.assertEqual(ask(hull(3, TRIANGLE), parts(wrong))[1], [-1])

    def test_nothing_changes(self):
        asked = [corners(slot) for slot in range(8)]
        told = ask(hull(0, SQUARE), hull(7, [(0, 0), (17, 0), (0, 7)]),
                   *(asked + [parts(0), parts(7), parts(1), parts(8)] + asked))
        self.assertEqual(told[10:14], [[0, 9], [-2], [-1], [-1]])
        self.assertEqual(told[2:10], told[14:])


if __name__ == "__main__":
    unittest.main()
