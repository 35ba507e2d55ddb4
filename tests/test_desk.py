"""The interface: how calls are handed in to answers, and what is given back."""

import unittest

from cornerfigures.desk import answers
from helpers import about, begin, corners, dual, hull, mixed, parts, raw_hull, room, split, total

# Each kind of call, refusals among them, with what's given back for it.
TALK = [
    (begin(), [1, 0]),
    (hull(0, [(0, 0), (3, 0), (0, -3)]), [1, 3]),
    (corners(0), [7, 6, 0, 4294967293, 3, 0, 0, 0]),
    (corners(0, 5), [1, -2]),
    (corners(1, 5), [1, -1]),
    (about(0), [5, 0, 9, 9, 1, 3]),
    (about(-2147483648), [1, -1]),
    (raw_hull(1, []), [1, -1]),
    (raw_hull(1, [4294937295, 30001]), [1, -1]),
    (hull(1, [(4, 4), (5, 5), (4, 4)]), [1, -2]),
    (total(0, 1, 2), [1, -1]),
    (hull(1, [(0, 0), (1, 0), (1, 1), (0, 1)]), [1, 4]),
    (total(0, 1, 0), [1, 5]),
    (about(0), [5, 0, 23, 13, 6, 4]),
    (total(0, 0, 2147483647), [1, -1]),
    (mixed(0, 1), [2, 0, 8]),
    (mixed(1, 2), [1, -1]),
    (parts(1), [2, 0, 4]),
    (parts(2), [1, -1]),
    (hull(2, [(0, 0), (17, 0), (0, 7)]), [1, 3]),
    (parts(2), [1, -2]),
    (room(0, 1), [2, 0, 10]),
    (room(1, 0), [2, 0, 0]),
    (room(-2147483648, 0), [1, -1]),
    (dual(1, 3), [1, -2]),
    (dual(1, 8), [1, -1]),
    (hull(3, [(-1, -1), (1, 0), (0, 1)]), [1, 3]),
    (dual(3, 3), [1, 3]),
    (corners(3), [7, 6, 4294967295, 4294967295, 2, 4294967295, 4294967295, 2]),
    (begin(), [1, 0]),
    (about(0), [1, -1]),
    (mixed(1, 1), [1, -1]),
    (parts(1), [1, -1]),
    (room(0, 0), [1, -1]),
    (dual(3, 3), [1, -1]),
]


def talk(count):
    """The first so many calls as one list, and what's given back for it."""
    line = []
    told = []
    for call, answer in TALK[:count]:
        line.extend(call)
        told.extend(answer)
    return line, told


class Answers(unittest.TestCase):
    def test_an_empty_list_of_calls(self):
        self.assertEqual(answers([]), [])

    def test_lists_of_all_lengths(self):
        for count in range(len(TALK) + 1):
            line, told = talk(count)
            self.assertEqual(answers(line), told)

    def test_written_out_in_full(self):
        line = [0, 1, 3, 6, 0, 0, 2, 0, 0, 4294967295, 2, 3, 6, 3, 3, 4, 3, 3, 7, 2, 7, 5, 1, 4, 0, 3, 4]
        told = [1, 0, 1, 3, 7, 6, 0, 4294967295, 2, 0, 0, 0, 5, 0, 2, 4, 0, 1, 1, 3, 1, -2, 1, -1, 1, -1]
        self.assertEqual(answers(line), told)
        more = [5, 3, 7, 6, 7, 7, 7, 3, 8, 3, 0, 5, 3, 4, 6, 4, 7, 4, 3, 8, 3, 8, 8, 4, 4]
        told_more = [2, 0, 4, 2, 0, 3, 2, 0, 4, 1, -2, 1, -1, 1, -1, 1, -1, 1, -1, 1, -1]
        self.assertEqual(answers(line + more), told + told_more)

    def test_whole_numbers_in_a_list(self):
        told = answers(talk(len(TALK))[0])
        self.assertIs(type(told), list)
        self.assertEqual({type(number) for number in told}, {int})

    def test_a_hundred_calls(self):
        line = begin() + hull(5, [(0, 0), (1, 0), (0, 1)])
        for call in range(98):
            line.extend(about(5))
        told = split(answers(line))
        self.assertEqual(len(told), 100)
        self.assertEqual(told[:3], [[0], [3], [0, 1, 3, 0, 1]])
        for answer in told[3:]:
            self.assertEqual(answer, told[2])

    def test_a_row_as_long_as_it_may_be_between_other_calls(self):
        line = begin() + raw_hull(0, [1, 2, 3, 4, 2, 0, 3, 3] * 16) + about(1) + raw_hull(1, [0]) + about(0)
        self.assertEqual(answers(line), [1, 0, 1, 4, 1, -1, 1, -1, 5, 0, 7, 5, 2, 2])


class NothingKept(unittest.TestCase):
    def test_what_was_handed_in_stays_as_it_was(self):
        for count in range(len(TALK) + 1):
            line = talk(count)[0]
            copy = list(line)
            answers(line)
            self.assertEqual(line, copy)

    def test_a_second_time_answers_the_same(self):
        for count in range(len(TALK) + 1):
            line, told = talk(count)
            self.assertEqual(answers(line), told)
            self.assertEqual(answers(line), told)

    def test_nothing_lies_there_the_next_time(self):
        answers(begin() + hull(0, [(0, 0), (1, 0), (0, 1)]))
        self.assertEqual(answers(begin() + about(0)), [1, 0, 1, -1])
        # Not even without the begin that stands first in each list.
        self.assertEqual(answers(about(0)), [1, -1])

    def test_what_was_given_back_may_be_changed(self):
        line, told = talk(len(TALK))
        answers(line).clear()
        self.assertEqual(answers(line), told)


if __name__ == "__main__":
    unittest.main()
