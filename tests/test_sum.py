"""Promise 6: sum; and promise 3, as far as it's about sum."""

import unittest

from helpers import about, ask, bend, corner_list, corners, hull, quarter_turns, strewn, total, walk

SQUARE = [(0, 0), (2, 0), (2, 2), (0, 2)]
TRIANGLE = [(0, 0), (3, 0), (0, 3)]
DIAMOND = [(-1, 0), (0, -1), (1, 0), (0, 1)]

# Sixteen steps of a quarter turn, no two along each other, parted so that both figures fit in the sheet.
FIRST_STEPS = [(1, 0), (1, 1), (1, 3), (3, 1), (1, 4), (4, 1), (2, 5), (5, 2), (3, 2)]
SECOND_STEPS = [(1, 2), (2, 1), (2, 3), (1, 5), (5, 1), (3, 4), (4, 3)]


def centred(points):
    x = min(x for x, y in points) + 20
    y = min(y for x, y in points) + 20
    return [(p - x, q - y) for p, q in points]


def greatest(figure, direction):
    return max(direction[0] * x + direction[1] * y for x, y in figure)


def outwards(figure):
    """Of each edge the direction that's square to it and leads out of the figure."""
    return [(figure[k][1] - figure[k - 1][1], figure[k - 1][0] - figure[k][0]) for k in range(len(figure))]


FIRST = centred(walk(quarter_turns(FIRST_STEPS)))
SECOND = centred(walk(quarter_turns(SECOND_STEPS)))


class Sum(unittest.TestCase):
    def check(self, first, second):
        """It's told as a figure, and goes as far as both together at all edges of the three."""
        told = ask(hull(0, first), hull(1, second), total(0, 1, 2), corners(2), corners(0), corners(1))
        figures = [corner_list(answer) for answer in told[3:]]
        figure = figures[0]
        self.assertEqual(told[2], [len(figure)])
        self.assertEqual(figure[0], min(figure))
        for k in range(len(figure)):
            self.assertGreater(bend(figure[k - 2], figure[k - 1], figure[k]), 0)
        for direction in outwards(figures[0]) + outwards(figures[1]) + outwards(figures[2]):
            self.assertEqual(greatest(figure, direction), greatest(first, direction) + greatest(second, direction))
        return figure

    def test_without_parallel_edges(self):
        self.assertEqual(self.check(SQUARE, DIAMOND),
                         [(-1, 0), (0, -1), (2, -1), (3, 0), (3, 2), (2, 3), (0, 3), (-1, 2)])

    def test_with_parallel_edges(self):
        self.assertEqual(self.check(TRIANGLE, TRIANGLE), [(0, 0), (6, 0), (0, 6)])
        self.assertEqual(self.check(SQUARE, [(1, 1), (5, 1), (5, 2), (1, 2)]), [(1, 1), (7, 1), (7, 4), (1, 4)])
        self.assertEqual(self.check(SQUARE, TRIANGLE), [(0, 0), (5, 0), (5, 2), (2, 5), (0, 5)])

    def test_edges_the_same_way_and_the_other_way(self):
        self.assertEqual(self.check(TRIANGLE, [(0, 0), (0, -3), (-3, 0)]),
                         [(-3, 0), (0, -3), (3, -3), (3, 0), (0, 3), (-3, 3)])

    def test_figures_strewn_over_the_sheet(self):
        for seed in range(1, 30):
            first = strewn(seed, 3 + seed % 11)
            second = strewn(seed * 1000, 4 + seed % 13)
            self.check(first, second)

    def test_of_many_corners(self):
        self.check(FIRST, SECOND)

    def test_the_order_of_the_two_is_no_matter(self):
        told = ask(hull(0, SQUARE), hull(1, DIAMOND), total(0, 1, 2), total(1, 0, 3), corners(2), corners(3))
        self.assertEqual(told[4], told[5])

    def test_the_two_stay_where_they_lie(self):
        told = ask(hull(0, SQUARE), hull(1, DIAMOND), corners(0), corners(1), total(0, 1, 7), corners(0), corners(1))
        self.assertEqual(told[2:4], told[5:7])


class Places(unittest.TestCase):
    def test_put_at_the_place_of_one_of_the_two(self):
        for slot, other in ((0, 1), (1, 0)):
            told = ask(hull(0, SQUARE), hull(1, TRIANGLE), corners(other), total(0, 1, slot),
                       corners(slot), corners(other))
            self.assertEqual(told[3:5], [[5], [10, 0, 0, 5, 0, 5, 2, 2, 5, 0, 5]])
            self.assertEqual(told[5], told[2])

    def test_of_one_with_itself_at_its_own_place(self):
        told = ask(hull(4, TRIANGLE), total(4, 4, 4), corners(4), total(4, 4, 4), corners(4))
        self.assertEqual(told[1:], [[3], [6, 0, 0, 6, 0, 0, 6], [3], [6, 0, 0, 12, 0, 0, 12]])

    def test_what_lay_there_is_replaced(self):
        told = ask(hull(0, TRIANGLE), hull(7, SQUARE), total(0, 0, 7), corners(7))
        self.assertEqual(told[3], [6, 0, 0, 6, 0, 0, 6])

    def test_no_place_and_nothing_there(self):
        for wrong in ((-1, 0, 1), (8, 0, 1), (0, -1, 1), (0, 8, 1), (0, 0, -1), (0, 0, 8), (1, 0, 1), (0, 1, 1),
                      (1, 1, 1), (2147483647, 0, 1), (0, -2147483648, 1), (0, 0, 2147483647)):
            told = ask(hull(0, TRIANGLE), total(*wrong), corners(0), corners(1), corners(7))
            self.assertEqual(told[1:], [[-1], [6, 0, 0, 3, 0, 0, 3], [-1], [-1]])


class TooMuch(unittest.TestCase):
    def test_64_corners(self):
        told = ask(hull(0, FIRST), hull(1, SECOND), total(0, 1, 2), corners(2, 128), corners(2, 127))
        self.assertEqual(told[:3], [[36], [28], [64]])
        self.assertEqual((told[3][0], len(told[3])), (128, 129))
        self.assertEqual(told[4], [-2])

    def test_64_corners_and_none_more_by_a_sum_along_its_edges(self):
        told = ask(hull(0, FIRST), hull(1, SECOND), total(0, 1, 2), hull(3, SQUARE), total(2, 3, 2))
        self.assertEqual(told[4], [64])

    def test_65_corners(self):
        # Of its three edges (1, 6) alone goes a way that no other one goes.
        more = walk([(1, 6), (-1, -5), (0, -1)])
        told = ask(hull(0, FIRST), hull(1, SECOND), total(0, 1, 2), hull(3, more), corners(2),
                   total(2, 3, 2), corners(2))
        self.assertEqual(told[2:4], [[64], [3]])
        self.assertEqual(told[5], [-2])
        self.assertEqual(told[4], told[6])

    def test_68_corners_put_nowhere(self):
        more = walk(quarter_turns([(1, 6)]))
        told = ask(hull(0, FIRST), hull(1, SECOND), total(0, 1, 2), hull(3, more), total(2, 3, 7), corners(7),
                   about(2), about(3))
        self.assertEqual(told[4:6], [[-2], [-1]])
        self.assertEqual(told[6][0], 0)
        self.assertEqual(told[7][0], 0)

    # Between 20 and 30000 nothing is handed in; the bounds of the promise hold all the same.
    def test_corners_beyond_30000(self):
        far = [(0, 0), (30000, 0), (0, 1)]
        near = [(-1, 0), (0, 0), (-1, 1)]
        nearest = [(0, 0), (1, 0), (0, 1)]
        for turn in (lambda x, y: (x, y), lambda x, y: (-x, y), lambda x, y: (y, x), lambda x, y: (y, -x)):
            puts = [hull(slot, [turn(x, y) for x, y in points]) for slot, points in enumerate([far, near, nearest])]
            told = ask(*puts, total(0, 1, 3), total(0, 2, 4), corners(3, 8), corners(4))
            self.assertEqual(told[3:5], [[4], [-2]])
            self.assertEqual((told[5][0], told[6]), (8, [-1]))

    def test_minus_1_is_looked_at_ahead_of_minus_2(self):
        more = walk(quarter_turns([(1, 6)]))
        puts = [hull(0, FIRST), hull(1, SECOND), total(0, 1, 2), hull(3, more)]
        for slot in (-1, 8):
            self.assertEqual(ask(*puts, total(2, 3, slot))[4], [-1])


if __name__ == "__main__":
    unittest.main()
