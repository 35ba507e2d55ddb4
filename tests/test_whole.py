"""The whole document: lists of calls of all nine kinds, against a plain model of the words."""

import unittest

from cornerfigures.desk import answers
from helpers import (about, added, begin, corners, dual, flat, hull, lift, lower, mixed, parts, quarter_turns,
                     raw_hull, room, sides, split, strewn, total, walk, wrapped)

SHEET = [(-20, -20), (20, -20), (20, 20), (-20, 20)]
ROUND = walk(quarter_turns([(1, 0), (1, 1), (1, 3), (3, 1), (1, 4), (4, 1), (3, 2)]), (-7, -18))
OTHER = walk(quarter_turns([(1, 2), (2, 1), (2, 3), (1, 5), (5, 1), (3, 4), (4, 3)]), (-9, -20))
# 24 points at the rim, no edge of more than one step.
EVEN = walk(quarter_turns([(1, 0), (1, 1), (2, 1), (1, 2), (3, 1), (1, 3)]), (-3, -13))
SQUARE = [(-1, -1), (1, -1), (1, 1), (-1, 1)]
NUMBERS = {0: 0, 2: 2, 3: 1, 4: 3, 5: 2, 6: 1, 7: 2, 8: 2}


def double_area(figure):
    return sum(x * v - y * u for x, y, u, v, g in sides(figure))


def rim(figure):
    return sum(g for x, y, u, v, g in sides(figure))


def reach(figure, a, b):
    heights = [a * x + b * y for x, y in figure]
    return max(heights) - min(heights)


def width(figure):
    """By all directions that may reach less far than (1, 0) and (0, 1)."""
    best = min(reach(figure, 1, 0), reach(figure, 0, 1))
    far = max(reach(figure, 1, 0), reach(figure, 0, 1))
    size = 1
    # A reach is at least the direction's length times the area, over the way between the two corners farthest apart.
    while size * double_area(figure) <= 3 * best * far:
        for k in range(-size, size + 1):
            best = min(best, reach(figure, size, k), reach(figure, k, size))
        size += 1
    return best


def partings(figure):
    """Edge by edge, in how many ways each point is come to."""
    ways = {(0, 0): 1}
    for x, y, u, v, g in sides(figure):
        more = {}
        for k in range(g + 1):
            for p, q in ways:
                point = (p + k * (u - x) // g, q + k * (v - y) // g)
                more[point] = more.get(point, 0) + ways[p, q]
        ways = more
    return ways[0, 0]


def shifts(outer, inner):
    """All whole shifts one by one, edge by edge for the corner that's farthest out there."""
    least = [(u - x, v - y, min((u - x) * (q - y) - (v - y) * (p - x) for p, q in inner))
             for x, y, u, v, g in sides(outer)]
    found = 0
    for a in between([x for x, y in outer], [x for x, y in inner]):
        for b in between([y for x, y in outer], [y for x, y in inner]):
            found += all(right * b - up * a + spare >= 0 for right, up, spare in least)
    return found


def between(outer, inner):
    """All shifts that may put the inner numbers between the outer ones, and one more at each end."""
    return range(min(outer) - min(inner) - 1, max(outer) - max(inner) + 2)


class Model:
    """The eight places, and what each call answers, as plainly as can be."""

    def __init__(self):
        self.lie = {}

    def begin(self):
        self.lie = {}
        return [0]

    def hull(self, slot, numbers):
        numbers = lower(numbers)
        if not numbers or len(numbers) % 2 or max(map(abs, numbers)) > 30000 or slot not in range(8):
            return [-1]
        figure = wrapped(list(zip(numbers[0::2], numbers[1::2])))
        return self.put(slot, figure) if figure else [-2]

    def put(self, slot, figure):
        self.lie[slot] = figure
        return [len(figure)]

    def corners(self, slot, most):
        numbers = flat(self.lie[slot])
        return [len(numbers)] + lift(numbers) if len(numbers) <= most <= 1048576 else [-2]

    def about(self, slot):
        figure = self.lie[slot]
        area = double_area(figure)
        return [0, area, rim(figure), (area - rim(figure) + 2) // 2, width(figure)]

    def sum(self, i, j, slot):
        figure = added(self.lie[i], self.lie[j])
        return self.put(slot, figure) if len(figure) <= 64 else [-2]

    def mixed(self, i, j):
        first, second = self.lie[i], self.lie[j]
        return [0, (double_area(added(first, second)) - double_area(first) - double_area(second)) // 2]

    def parts(self, slot):
        return [0, partings(self.lie[slot])] if rim(self.lie[slot]) <= 24 else [-2]

    def room(self, i, j):
        return [0, shifts(self.lie[i], self.lie[j])]

    def dual(self, i, slot):
        around = sides(self.lie[i])
        if any(x * v - y * u != g for x, y, u, v, g in around):
            return [-2]
        return self.put(slot, wrapped([((y - v) // g, (u - x) // g) for x, y, u, v, g in around]))

    def answer(self, call):
        if call[0] == 0:
            return self.begin()
        if call[0] == 1:
            return self.hull(call[1], call[3:])
        asked = call[1:3] if call[0] in (4, 5, 7) else call[1:2]
        put = call[-1:] if call[0] in (4, 8) else []
        if any(slot not in self.lie for slot in asked) or any(slot not in range(8) for slot in put):
            return [-1]
        kinds = {2: self.corners, 3: self.about, 4: self.sum, 5: self.mixed, 6: self.parts, 7: self.room, 8: self.dual}
        return kinds[call[0]](*call[1:])


class Chooser:
    """Whole numbers below a bound, the same ones for the same seed."""

    def __init__(self, seed):
        self.state = seed * 7919 + 1

    def below(self, bound):
        self.state = (self.state * 6364136223846793005 + 1442695040888963407) % 2 ** 64
        return (self.state >> 33) % bound

    def one_of(self, things):
        return things[self.below(len(things))]

    def slot(self):
        return self.one_of((-1, 8, -2147483648, 2147483647)) if self.below(20) == 0 else self.below(5)

    def points(self):
        kind = self.below(8)
        if kind == 0:
            return self.one_of((SHEET, ROUND, OTHER, EVEN))
        if kind < 4:
            return self.one_of((SQUARE, [(-1, 0), (0, -1), (1, 0), (0, 1)], [(-1, -1), (2, -1), (-1, 2)],
                                [(1, 0), (0, 1), (-1, -1)], [(-1, 1), (4, -1), (-1, 0)], [(-1, -1), (3, -1), (-1, 1)]))
        scale = self.one_of((1, 1, 5, 9))
        return [(x // scale, y // scale) for x, y in strewn(self.below(10000), self.one_of((2, 3, 3, 4, 5, 8, 40)))]

    def call(self, sums):
        """A call; one of sum only if there may be one more."""
        kind = self.one_of((1, 1, 1, 2, 3, 4, 5, 6, 6, 7, 7, 8, 8) if sums else (1, 1, 2, 3, 5, 6, 7, 8))
        if self.below(120) == 0:
            return begin()
        if kind == 1:
            return raw_hull(self.slot(), [30001, 1]) if self.below(30) == 0 else hull(self.slot(), self.points())
        if kind == 2:
            return corners(self.slot(), self.one_of((1048576, 128, 6, 8, 0, -1, 1048577)))
        return [kind] + [self.slot() for k in range(NUMBERS[kind])]

    def calls(self, count):
        found = [begin()] + [hull(slot, self.points()) for slot in range(5)]
        sums = 2
        while len(found) < count:
            found.append(self.call(sums))
            sums -= found[-1][0] == 4
        return found


class Whole(unittest.TestCase):
    def check(self, calls):
        """Each answer is as the model's, a second time too, and the list that's handed in stays as it was."""
        line = [number for call in calls for number in call]
        self.assertLessEqual(len(line), 30000)
        self.assertLessEqual(len(calls), 100)
        self.assertLessEqual(len([call for call in calls if call[0] == 4]), 2)
        copy = list(line)
        told = answers(line)
        self.assertEqual(line, copy)
        self.assertEqual(answers(line), told)
        self.assertEqual({type(number) for number in told}, {int})
        found = split(told)
        self.assertEqual(len(found), len(calls))
        model = Model()
        for call, answer in zip(calls, found):
            self.assertEqual(answer, model.answer(call), call)
        return found

    def test_a_hundred_calls_of_all_kinds(self):
        seen = {}
        for seed in range(60):
            calls = Chooser(seed).calls(100)
            for call, answer in zip(calls, self.check(calls)):
                kind = (call[0], min(answer[0], 0))
                seen[kind] = seen.get(kind, 0) + 1
        refused = [(kind, -1) for kind in range(1, 9)] + [(kind, -2) for kind in (1, 2, 6, 8)]
        for kind in [(kind, 0) for kind in range(9)] + refused:
            self.assertGreaterEqual(seen.get(kind, 0), 20, kind)
        # No other refusals are told but sum's, for which one needs more corners than chance brings.
        self.assertEqual(set(seen) - {(4, -2)}, {(kind, 0) for kind in range(9)} | set(refused))

    def test_the_largest_that_can_be_handed_in(self):
        calls = [begin(), hull(0, SHEET), hull(1, ROUND), hull(2, OTHER), hull(3, EVEN), hull(4, SQUARE)]
        calls += [about(slot) for slot in range(5)] + [corners(slot) for slot in range(5)]
        calls += [mixed(i, j) for i in range(5) for j in range(5)] + [room(i, j) for i in range(5) for j in range(5)]
        calls += [parts(slot) for slot in range(5)] + [dual(slot, 5) for slot in range(5)]
        calls += [total(1, 2, 6), about(6), corners(6), mixed(6, 0), mixed(1, 6), parts(6), room(6, 1), room(6, 2),
                  room(0, 6), dual(6, 6), total(6, 0, 7), about(7), corners(7), mixed(7, 7), parts(7), room(7, 6),
                  room(7, 4), dual(7, 0), begin(), about(7)]
        found = self.check(calls)
        self.assertEqual(found[6], [0, 3200, 160, 1521, 40])
        self.assertEqual(found[76], [56])

    def test_the_largest_that_two_sums_can_make(self):
        told = self.check([begin(), hull(0, SHEET), total(0, 0, 0), total(0, 0, 0), about(0), corners(0),
                           hull(1, SHEET), mixed(0, 1), mixed(0, 0), room(0, 1), room(1, 0), parts(0), dual(0, 0)])
        self.assertEqual(told[4:7], [[0, 51200, 640, 159 * 159, 160],
                                     [8] + lift([-80, -80, 80, -80, 80, 80, -80, 80]), [4]])
        self.assertEqual(told[7:], [[0, 160 * 40 * 2], [0, 51200], [0, 121 * 121], [0, 0], [-2], [-2]])

    def test_a_sum_of_a_sum_without_and_with_too_many_corners(self):
        calls = [begin(), hull(0, ROUND), hull(1, OTHER), total(0, 1, 2), total(2, 2, 3), about(3), corners(3),
                 mixed(3, 2), mixed(2, 3), room(3, 2), room(3, 3), parts(3), dual(3, 3)]
        self.assertEqual(self.check(calls)[3:5], [[56], [56]])
        more = walk(quarter_turns([(1, 6), (6, 1), (5, 2)]))
        calls = [begin(), hull(0, ROUND), hull(1, OTHER), total(0, 1, 2), hull(3, more), total(2, 3, 3), about(3),
                 corners(3), about(2), corners(2)]
        self.assertEqual(self.check(calls)[3:6], [[56], [12], [-2]])

    def test_the_same_calls_again_behind_a_begin(self):
        calls = Chooser(1000).calls(50)
        calls = [call for call in calls if call[0] != 4]
        found = self.check(calls + calls)
        self.assertEqual(found[:len(calls)], found[len(calls):])

    def test_a_hundred_of_one_kind(self):
        for call in (parts(3), room(6, 1), mixed(6, 6), about(6), corners(6), dual(4, 4)):
            calls = [begin(), hull(1, ROUND), hull(2, OTHER), hull(3, EVEN), hull(4, SQUARE), total(1, 2, 6)]
            line = [number for each in calls + [call] * 94 for number in each]
            found = split(answers(line))
            self.assertEqual(len(found), 100)
            self.assertEqual(found[6:], [found[6]] * 94)
            self.assertGreaterEqual(found[6][0], 0)


if __name__ == "__main__":
    unittest.main()
