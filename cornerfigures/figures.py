"""Convex figures: each a list of its corners (x, y), round to the left, from the first one on."""


def turn(first, second, third):
    """Above 0 where the way over the three points bends to the left, 0 where it runs straight."""
    return ((second[0] - first[0]) * (third[1] - first[1])
            - (second[1] - first[1]) * (third[0] - first[0]))


def half_round(points):
    """The corners to the right of the way from the first point to the last; the points are in order."""
    corners = []
    for point in points:
        while len(corners) > 1 and turn(corners[-2], corners[-1], point) <= 0:
            corners.pop()
        corners.append(point)
    return corners


def hull(points):
    """The corners of the points' hull; fewer than three if all points are on one line."""
    ordered = sorted(set(points))
    below = half_round(ordered)
    above = half_round(list(reversed(ordered)))
    # Each half ends where the other one begins.
    return below[:-1] + above[:-1]


def put_together(first, second):
    """The sum of two figures: the hull of all sums of their corners."""
    points = []
    for x, y in first:
        points.extend([(x + u, y + v) for u, v in second])
    return hull(points)


def edges(figure):
    """Both ends of each edge, round to the left."""
    return list(zip(figure, figure[1:] + figure[:1]))


def common_divisor(a, b):
    """The greatest common divisor of two whole numbers that are not below 0."""
    while b > 0:
        rest = a % b
        a = b
        b = rest
    return a


def steps(start, end):
    """How many steps an edge has."""
    return common_divisor(abs(end[0] - start[0]), abs(end[1] - start[1]))


def one_step(start, end):
    """One of the edge's steps."""
    count = steps(start, end)
    return ((end[0] - start[0]) // count, (end[1] - start[1]) // count)


def farthest_out(figure, start, end):
    """For an edge from (x, y) to (u, v): the greatest p*(v-y) - q*(u-x) of the figure's points (p, q)."""
    right = end[0] - start[0]
    up = end[1] - start[1]
    return max([p * up - q * right for p, q in figure])


def double_area(figure):
    """Twice the figure's area."""
    return sum([start[0] * end[1] - start[1] * end[0] for start, end in edges(figure)])


def rim_points(figure):
    """How many whole points are at the figure's rim."""
    return sum([steps(start, end) for start, end in edges(figure)])


def inside_points(figure):
    """How many whole points are inside the figure."""
    # Pick: twice the area is the rim's points, and twice those inside, less 2.
    return (double_area(figure) - rim_points(figure) + 2) // 2


def together(first, second):
    """What two figures have together."""
    return sum([farthest_out(first, start, end) for start, end in edges(second)])


def is_one_step_off(start, end):
    """Whether the edge is one step from 0, with 0 to its left."""
    return start[0] * end[1] - start[1] * end[0] == steps(start, end)


def has_dual(figure):
    """Whether all edges are one step from 0."""
    return all([is_one_step_off(start, end) for start, end in edges(figure)])


def dual(figure):
    """The figure's dual, if it has one."""
    along = [one_step(start, end) for start, end in edges(figure)]
    return hull([(-up, right) for right, up in along])
