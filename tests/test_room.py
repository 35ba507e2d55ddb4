"""Promise 9: room; and promise 3, as far as it's about room."""

import unittest

from helpers import about, ask, bend, corner_list, corners, dual, hull, room, strewn, total, wrapped

SQUARE = [(0, 0), (2, 0), (2, 2), (0, 2)]
TRIANGLE = [(0, 0), (3, 0), (0, 3)]
DIAMOND = [(-1, 0), (0, -1), (1, 0), (0, 1)]
SHEET = [(-20, -20), (20, -20), (20, 20), (-20, 20)]


def is_in(figure, point):
    return all(bend(figure[k - 1], figure[k], point) >= 0 for k in range(len(figure)))


def tried(outer, inner):
    """All whole shifts that put the inner one's first corner anywhere near the outer one, one by one."""
    x, y = inner[0]
    found = 0
    for p in range(min(p for p, q in outer) - 1, max(p for p, q in outer) + 2):
        for q in range(min(q for p, q in outer) - 1, max(q for p, q in outer) + 2):
            found += all(is_in(outer, (u + p - x, v + q - y)) for u, v in inner)
    return found


class Room(unittest.TestCase):
    def room_of(self, outer, inner):
        """What is answered, against all whole shifts."""
        told = ask(hull(0, outer), hull(1, inner), corners(0), corners(1), room(0, 1))
        self.assertEqual(told[4], [0, tried(corner_list(told[2]), corner_list(told[3]))])
        return told[4][1]

    def test_of_a_figure_in_itself(self):
        for seed in range(1, 30):
            told = ask(hull(2, strewn(seed, 4 + seed % 15)), room(2, 2))
            self.assertEqual(told[1], [0, 1])

    def test_of_a_figure_in_itself_that_lies_elsewhere(self):
        self.assertEqual(self.room_of(TRIANGLE, [(x - 17, y + 12) for x, y in TRIANGLE]), 1)
        self.assertEqual(self.room_of([(x + 17, y - 20) for x, y in DIAMOND], DIAMOND), 1)

    def test_in_a_larger_one(self):
        self.assertEqual(self.room_of(SHEET, SQUARE), 39 * 39)
        self.assertEqual(self.room_of(SHEET, TRIANGLE), 38 * 38)
        self.assertEqual(self.room_of([(0, 0), (9, 0), (9, 4), (0, 4)], SQUARE), 8 * 3)
        self.assertEqual(self.room_of([(0, 0), (7, 0), (0, 7)], TRIANGLE), 15)
        self.assertEqual(self.room_of([(-5, 0), (0, -5), (5, 0), (0, 5)], DIAMOND), 41)

    def test_turned_the_other_way(self):
        turned = [(0, 0), (-3, 0), (0, -3)]
        self.assertEqual(self.room_of([(0, 0), (6, 0), (0, 6)], turned), 1)
        self.assertEqual(self.room_of([(0, 0), (5, 0), (0, 5)], turned), 0)
        self.assertEqual(self.room_of([(0, 0), (8, 0), (0, 8)], turned), 6)

    def test_just_as_wide(self):
        self.assertEqual(self.room_of(SQUARE, [(5, 5), (7, 5), (7, 6), (5, 6)]), 2)
        self.assertEqual(self.room_of(SQUARE, [(5, 5), (6, 5), (6, 7), (5, 7)]), 2)
        self.assertEqual(self.room_of(SHEET, [(-20, 0), (20, 0), (20, 13), (-20, 13)]), 28)
        self.assertEqual(self.room_of([(0, 0), (4, 0), (4, 4), (0, 4)], [(0, 1), (4, 0), (2, 2)]), 3)

    def test_just_as_wide_but_less_high(self):
        self.assertEqual(self.room_of(SQUARE, [(0, 0), (2, 0), (2, 3), (0, 3)]), 0)
        self.assertEqual(self.room_of([(0, 0), (20, 0), (20, 1), (0, 1)], [(0, 0), (20, 0), (20, 2), (0, 2)]), 0)
        self.assertEqual(self.room_of([(0, 0), (6, 0), (0, 4)], [(0, 0), (6, 0), (0, 5)]), 0)
        self.assertEqual(self.room_of([(-3, 0), (0, -2), (3, 0), (0, 2)], [(-3, 0), (0, -3), (3, 0), (0, 3)]), 0)

    def test_no_room(self):
        self.assertEqual(self.room_of(SQUARE, [(0, 0), (3, 0), (3, 1), (0, 1)]), 0)
        self.assertEqual(self.room_of(SQUARE, [(0, 0), (1, 0), (1, 3), (0, 3)]), 0)
        self.assertEqual(self.room_of(SQUARE, SHEET), 0)
        self.assertEqual(self.room_of(TRIANGLE, SQUARE), 0)
        self.assertEqual(self.room_of([(0, 0), (9, 9), (8, 9)], [(0, 0), (1, 0), (0, 1)]), 0)

    def test_as_wide_and_as_high_and_no_room_all_the_same(self):
        self.assertEqual(self.room_of([(0, -2), (2, 0), (0, 2), (-2, 0)], [(0, 0), (4, 0), (4, 4), (0, 4)]), 0)
        self.assertEqual(self.room_of(TRIANGLE, [(0, 0), (-3, 0), (0, -3)]), 0)
        self.assertEqual(self.room_of([(0, -5), (5, 0), (0, 5), (-5, 0)], [(0, 0), (6, 0), (6, 5), (0, 5)]), 0)

    def test_thin_figures_that_lie_across(self):
        across = [(0, 0), (1, 0), (20, 19), (20, 20), (19, 20), (0, 1)]
        self.assertEqual(self.room_of(across, [(0, 0), (1, 1), (0, 1)]), 20 + 19)
        self.assertEqual(self.room_of(across, [(0, 0), (1, 0), (1, 1), (0, 1)]), 20)
        self.assertEqual(self.room_of(across, [(5, 5), (8, 9), (4, 4)]), 16 + 16)
        self.assertEqual(self.room_of(across, [(0, 0), (2, 0), (0, 1)]), 0)
        steep = [(0, 0), (5, 13), (6, 16), (1, 3)]
        self.assertEqual(self.room_of(steep, [(0, 0), (1, 3), (2, 5)]), 0)
        self.room_of(steep, [(0, 0), (1, 3), (3, 8)])
        for a, b in ((3, 2), (7, 5), (-3, 8), (1, -9), (-11, -4)):
            longer = [(0, 0), (a, b), (a + 1, b), (1, 0), (a, b + 1), (0, 1)]
            for inner in ([(0, 0), (1, 0), (0, 1)], [(0, 0), (a, b), (1, 1)], [(a, b), (a + 1, b), (0, 0)]):
                self.room_of(longer, inner)
                self.room_of(inner, longer)

    def test_shifts_between_places_that_arent_whole(self):
        self.assertEqual(self.room_of([(0, 0), (6, 2), (6, 3), (0, 1)], [(0, 0), (1, 1), (0, 1)]), 2)
        self.assertEqual(self.room_of([(0, 0), (5, 2), (7, 7), (2, 5)], [(0, 0), (3, 1), (4, 4), (1, 3)]), 4)
        # There are shifts, as figures three times as large show, but none of them is whole.
        for outer, inner in (([(-3, 1), (0, -3), (1, -4), (2, 0), (-1, 1)], [(-3, -1), (-1, -1), (-2, 1)]),
                             ([(-4, -4), (3, 0), (0, 2)], [(-2, -1), (0, -1), (1, 2)]),
                             ([(-3, -1), (0, -3), (3, 2), (-3, 1)], [(-3, -2), (1, 0), (1, 1)]),
                             ([(-4, 1), (-2, -4), (-1, 3)], [(-1, -2), (1, -1), (1, 1)])):
            self.assertEqual(self.room_of(outer, inner), 0)
            self.assertGreater(self.room_of([(3 * x, 3 * y) for x, y in outer], [(3 * x, 3 * y) for x, y in inner]), 0)
        for seed in range(1, 40):
            outer = strewn(seed, 3 + seed % 3)
            inner = [(x // 6, y // 6) for x, y in strewn(seed + 77, 4)]
            if wrapped(outer) and wrapped(inner):
                self.room_of(outer, inner)

    def test_both_ways_of_rounding_on_both_sides_of_0(self):
        # Triangles with all slopes: each lies above, below, left and right of 0 in turn.
        for a in (-14, -1, 0, 9):
            for b in (-13, -2, 0, 8):
                for points in ([(0, 0), (7, 2), (3, 9)], [(0, 9), (2, 0), (9, 5)], [(0, 3), (9, 0), (5, 9)]):
                    outer = [(x + a, y + b) for x, y in points]
                    for inner in ([(0, 0), (1, 0), (0, 1)], [(0, 0), (-2, -1), (1, -2)], [(-3, 4), (0, 4), (-2, 5)]):
                        self.room_of(outer, inner)

    def test_figures_strewn_over_the_sheet(self):
        found = []
        for seed in range(1, 50):
            outer = strewn(seed, 6 + seed % 11)
            inner = [(x // 4, y // 4) for x, y in strewn(seed * 1000, 3 + seed % 5)]
            if wrapped(inner):
                found.append(self.room_of(outer, inner))
                found.append(self.room_of(inner, outer))
        self.assertGreater(len([number for number in found if number > 1]), 20)

    def test_of_sums(self):
        # The sum of two takes in one of them in as many places as the other one has whole points.
        for seed in range(1, 20):
            told = ask(hull(0, strewn(seed, 4 + seed % 8)), hull(1, strewn(seed + 300, 5)), total(0, 1, 2),
                       room(2, 0), about(1), room(2, 1), about(0), room(0, 2))
            self.assertEqual(told[3], [0, told[4][2] + told[4][3]])
            self.assertEqual(told[5], [0, told[6][2] + told[6][3]])
            self.assertEqual(told[7], [0, 0])

    def test_of_a_sum_of_a_sum_as_large_as_can_be(self):
        told = ask(hull(0, SHEET), total(0, 0, 1), total(1, 1, 2), room(2, 0), room(2, 1), room(1, 2),
                   hull(3, [(0, 0), (1, 0), (0, 1)]), room(2, 3), hull(4, strewn(5, 12)), room(2, 4), corners(4))
        self.assertEqual(told[3:6], [[0, 121 * 121], [0, 81 * 81], [0, 0]])
        self.assertEqual(told[7], [0, 160 * 160])
        inner = corner_list(told[10])
        wide = max(x for x, y in inner) - min(x for x, y in inner)
        high = max(y for x, y in inner) - min(y for x, y in inner)
        self.assertEqual(told[9], [0, (161 - wide) * (161 - high)])

    def test_of_duals(self):
        told = ask(hull(0, SHEET), hull(1, [(-1, -1), (2, -1), (-1, 2)]), dual(1, 2), room(0, 2), room(1, 2),
                   room(2, 1), corners(2))
        self.assertEqual(corner_list(told[6]), [(-1, -1), (1, 0), (0, 1)])
        self.assertEqual(told[3:6], [[0, 39 * 39], [0, 1], [0, 0]])


class Places(unittest.TestCase):
    def test_the_first_takes_in_the_second(self):
        told = ask(hull(0, SHEET), hull(7, TRIANGLE), room(0, 7), room(7, 0), room(7, 7), room(0, 0))
        self.assertEqual(told[2:], [[0, 38 * 38], [0, 0], [0, 1], [0, 1]])

    def test_no_place_and_nothing_there(self):
        for wrong in (-1, 8, -2147483648, 2147483647, 1, 6):
            told = ask(hull(0, SQUARE), hull(7, TRIANGLE), room(wrong, 0), room(0, wrong), room(wrong, wrong))
            self.assertEqual(told[2:], [[-1]] * 3)

    def test_nothing_changes(self):
        asked = [corners(slot) for slot in range(8)]
        told = ask(hull(0, SHEET), hull(7, TRIANGLE), *(asked + [room(0, 7), room(7, 1), room(8, 0)] + asked))
        self.assertEqual(told[10:13], [[0, 38 * 38], [-1], [-1]])
        self.assertEqual(told[2:10], told[13:])


if __name__ == "__main__":
    unittest.main()
