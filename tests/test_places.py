"""Promise 3: what's asked of a place that isn't one, or where nothing lies, or to put something where there's none."""

import unittest

from helpers import about, ask, corners, dual, hull, mixed, parts, room, total

SQUARE = [(-1, -1), (1, -1), (1, 1), (-1, 1)]
LONG = [(0, 0), (17, 0), (0, 7)]
WIDE = [(x, y) for x in (-20, 20) for y in (-20, 20)]
NO_PLACES = (-1, 8, 9, -8, -2147483648, 2147483647)
EMPTY = (0, 2, 6)
# At these something lies: a square that has a dual, a figure of 25 points at its rim, and a large one.
PUTS = [hull(1, SQUARE), hull(3, LONG), hull(7, WIDE)]
# Each call, with arguments that it takes, and how many of these are places where a figure is to lie.
CALLS = [
    (corners, (1, 100), 1),
    (about, (3,), 1),
    (total, (1, 3, 5), 2),
    (mixed, (3, 7), 2),
    (parts, (1,), 1),
    (room, (7, 1), 2),
    (dual, (1, 5), 1),
]
# Calls that are refused by -2 where all the places are right.
TOO_MUCH = [
    (corners, (1, 7), 1),
    (corners, (1, 0), 1),
    (corners, (1, 1048577), 1),
    (parts, (3,), 1),
    (dual, (3, 5), 1),
    (dual, (7, 7), 1),
]


def looks():
    """Calls that tell all that lies anywhere."""
    return [corners(slot) for slot in range(8)]


def with_one(given, at, wrong):
    return given[:at] + (wrong,) + given[at + 1:]


class Places(unittest.TestCase):
    def answered(self, call):
        """What the call answers; if it's a refusal, nothing has changed behind it."""
        told = ask(*(PUTS + looks() + [call] + looks()))
        if told[11][0] < 0:
            self.assertEqual(told[3:11], told[12:])
        return told[11]

    def test_that_are_right(self):
        for call, given, asked in CALLS:
            self.assertGreaterEqual(self.answered(call(*given))[0], 0)

    def test_that_are_none(self):
        for call, given, asked in CALLS + TOO_MUCH:
            for at in range(asked):
                for wrong in NO_PLACES:
                    self.assertEqual(self.answered(call(*with_one(given, at, wrong))), [-1])

    def test_where_nothing_lies(self):
        for call, given, asked in CALLS + TOO_MUCH:
            for at in range(asked):
                for wrong in EMPTY:
                    self.assertEqual(self.answered(call(*with_one(given, at, wrong))), [-1])

    def test_that_are_none_to_put_something(self):
        for call, given in ((total, (1, 3, 5)), (dual, (1, 5)), (dual, (3, 5)), (dual, (7, 5))):
            for wrong in NO_PLACES:
                self.assertEqual(self.answered(call(*with_one(given, len(given) - 1, wrong))), [-1])

    def test_several_of_them_are_wrong(self):
        for wrong in NO_PLACES + EMPTY:
            for call in (total(wrong, wrong, wrong), total(wrong, wrong, 1), total(wrong, 1, wrong),
                         mixed(wrong, wrong), room(wrong, wrong), dual(wrong, wrong), corners(wrong, 0),
                         corners(wrong, wrong)):
                self.assertEqual(self.answered(call), [-1])

    def test_minus_2_where_all_of_them_are_right(self):
        for call, given, asked in TOO_MUCH:
            self.assertEqual(self.answered(call(*given)), [-2])

    def test_each_place_from_0_to_7(self):
        for slot in range(8):
            other = 7 - slot
            told = ask(hull(slot, SQUARE), about(slot), mixed(slot, slot), parts(slot), room(slot, slot),
                       dual(slot, other), parts(other), total(slot, other, slot), parts(slot), corners(slot, 16))
            self.assertEqual(told[:9], [[4], [0, 8, 8, 1, 2], [0, 8], [0, 9], [0, 1], [4], [0, 4], [8], [0, 80]])
            self.assertEqual(told[9][0], 16)

    def test_after_a_begin_nothing_lies_anywhere(self):
        told = ask(*(PUTS + [[0]] + [call(*given) for call, given, asked in CALLS + TOO_MUCH]))
        self.assertEqual(told[4:], [[-1]] * (len(CALLS) + len(TOO_MUCH)))


if __name__ == "__main__":
    unittest.main()
