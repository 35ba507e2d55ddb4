"""The desk: calls on eight places for figures come in as one list, their answers go out as one."""

from cornerfigures.figures import double_area, dual, has_dual, hull, inside_points, put_together, rim_points, together
from cornerfigures.parting import partings
from cornerfigures.room import shifts
from cornerfigures.width import width

PLACES = 8
# Numbers on a list are told without a sign: each below 0 as this much more.
LIFT = 4294967296
LEAST_LIFTED = 2147483648
FARTHEST = 30000
MOST_POINT_NUMBERS = 128
MOST_CORNER_NUMBERS = 1048576
MOST_SUM_CORNERS = 64
MOST_PARTED_RIM = 24
# How many whole numbers of its own a call has, by its number:
# begin, hull, corners, about, sum, mixed, parts, room, dual.
NUMBERS = (0, 1, 2, 1, 3, 2, 1, 2, 2)


def signed(number):
    """A number as it is, of one as it stands on a list."""
    return number - LIFT if number >= LEAST_LIFTED else number


def lifted(number):
    """A number as it stands on a list."""
    return number + LIFT if number < 0 else number


def in_bounds(number):
    """Whether a figure's corner may have this number."""
    return abs(number) <= FARTHEST


def is_place(slot):
    """Whether there is a place with this number."""
    return 0 <= slot < PLACES


def figure_at(places, slot):
    """The figure at a place; None where nothing lies, or where there is no such place."""
    return places[slot] if is_place(slot) else None


def begin(places):
    """Leave nothing in any place."""
    for slot in range(PLACES):
        places[slot] = None
    return [0]


def put_hull(places, slot, points):
    """Put the points' hull at a place; points is as it was handed in."""
    if not 2 <= len(points) <= MOST_POINT_NUMBERS or len(points) % 2 == 1:
        return [-1]
    numbers = [signed(number) for number in points]
    if not all([in_bounds(number) for number in numbers]) or not is_place(slot):
        return [-1]
    figure = hull(list(zip(numbers[0::2], numbers[1::2])))
    if len(figure) < 3:
        return [-2]
    places[slot] = figure
    return [len(figure)]


def tell_corners(places, slot, most):
    """Tell the corners of the figure at a place, if there are at most so many numbers."""
    figure = figure_at(places, slot)
    if figure is None:
        return [-1]
    told = [2 * len(figure)]
    if not 1 <= most <= MOST_CORNER_NUMBERS or told[0] > most:
        return [-2]
    for x, y in figure:
        told.extend([lifted(x), lifted(y)])
    return told


def tell_about(places, slot):
    """Tell twice the area, the points at the rim and inside, and the width of the figure at a place."""
    figure = figure_at(places, slot)
    if figure is None:
        return [-1]
    return [0, double_area(figure), rim_points(figure), inside_points(figure), width(figure)]


def put_sum(places, i, j, slot):
    """Put the sum of the figures at two places at a third, or at one of theirs."""
    first = figure_at(places, i)
    second = figure_at(places, j)
    if first is None or second is None or not is_place(slot):
        return [-1]
    figure = put_together(first, second)
    if len(figure) > MOST_SUM_CORNERS or not all([in_bounds(x) and in_bounds(y) for x, y in figure]):
        return [-2]
    places[slot] = figure
    return [len(figure)]


def tell_mixed(places, i, j):
    """Tell what the figures at two places have together."""
    first = figure_at(places, i)
    second = figure_at(places, j)
    if first is None or second is None:
        return [-1]
    return [0, together(first, second)]


def tell_parts(places, slot):
    """Tell in how many ways the figure at a place is parted into two."""
    figure = figure_at(places, slot)
    if figure is None:
        return [-1]
    if rim_points(figure) > MOST_PARTED_RIM:
        return [-2]
    return [0, partings(figure)]


def tell_room(places, i, j):
    """Tell how many whole shifts put the figure at the second place into the one at the first."""
    outer = figure_at(places, i)
    inner = figure_at(places, j)
    if outer is None or inner is None:
        return [-1]
    return [0, shifts(outer, inner)]


def put_dual(places, i, slot):
    """Put the dual of the figure at a place at another, or at its own."""
    figure = figure_at(places, i)
    if figure is None or not is_place(slot):
        return [-1]
    if not has_dual(figure):
        return [-2]
    turned = dual(figure)
    places[slot] = turned
    return [len(turned)]


def answer(places, call, given, points):
    """What one call answers: its number, its whole numbers, and its points, if it has them."""
    if call == 0:
        return begin(places)
    if call == 1:
        return put_hull(places, given[0], points)
    if call == 2:
        return tell_corners(places, given[0], given[1])
    if call == 3:
        return tell_about(places, given[0])
    if call == 4:
        return put_sum(places, given[0], given[1], given[2])
    if call == 5:
        return tell_mixed(places, given[0], given[1])
    if call == 6:
        return tell_parts(places, given[0])
    if call == 7:
        return tell_room(places, given[0], given[1])
    return put_dual(places, given[0], given[1])


def answers(calls):
    """For each call in order: how many numbers it answers, then these."""
    places = [None] * PLACES
    told = []
    at = 0
    while at < len(calls):
        call = calls[at]
        behind = at + 1 + NUMBERS[call]
        given = calls[at + 1:behind]
        points = []
        if call == 1:
            start = behind + 1
            behind = start + calls[behind]
            points = calls[start:behind]
        answered = answer(places, call, given, points)
        told.append(len(answered))
        told.extend(answered)
        at = behind
    return told
