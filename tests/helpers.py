"""What the tests share: calls in the form in which they're handed in, answers call by call, and figures."""

from math import gcd

from cornerfigures.desk import answers

LIFT = 4294967296


def lift(numbers):
    return [number + LIFT if number < 0 else number for number in numbers]


def lower(numbers):
    return [number - LIFT if number >= LIFT // 2 else number for number in numbers]


def flat(points):
    return [number for point in points for number in point]


def begin():
    return [0]


def raw_hull(slot, numbers):
    return [1, slot, len(numbers)] + list(numbers)


def hull(slot, points):
    return raw_hull(slot, lift(flat(points)))


def corners(slot, most=1048576):
    return [2, slot, most]


def about(slot):
    return [3, slot]


def total(i, j, slot):
    return [4, i, j, slot]


def mixed(i, j):
    return [5, i, j]


def parts(slot):
    return [6, slot]


def room(i, j):
    return [7, i, j]


def dual(i, slot):
    return [8, i, slot]


def split(told):
    """The answers one by one, of the list that's given back."""
    found = []
    at = 0
    while at < len(told):
        count = told[at]
        assert count > 0
        found.append(told[at + 1:at + 1 + count])
        at += 1 + count
    return found


def ask(*calls):
    """The answers to these calls behind a begin, one by one, without that of begin."""
    line = begin()
    for call in calls:
        line.extend(call)
    found = split(answers(line))
    assert found[0] == [0] and len(found) == len(calls) + 1
    return found[1:]


def corner_list(answer):
    """The points of what corners answered."""
    assert answer[0] == len(answer) - 1
    numbers = lower(answer[1:])
    return list(zip(numbers[0::2], numbers[1::2]))


def strewn(seed, count):
    """So many points of the sheet from -20 to 20, the same ones for the same seed."""
    points = []
    state = seed
    for k in range(count):
        state = (state * 1103515245 + 12345) % 2147483648
        points.append(((state >> 8) % 41 - 20, (state >> 16) % 41 - 20))
    return points


def bend(p, q, r):
    """Above 0 if r is to the left of the way from p to q, 0 if it's on their line."""
    return (q[0] - p[0]) * (r[1] - p[1]) - (q[1] - p[1]) * (r[0] - p[0])


def sides(figure):
    """Each edge as (x, y, u, v, g): from (x, y) to (u, v), of g steps."""
    found = []
    for k in range(len(figure)):
        x, y = figure[k - 1]
        u, v = figure[k]
        found.append((x, y, u, v, gcd(u - x, v - y)))
    return found


def wrapped(points):
    """The hull as one who walks round it finds it, with all points to the left; None if they're on one line."""
    first = min(points)
    far = max(points)
    if all(bend(first, far, point) == 0 for point in points):
        return None
    corner = first
    found = []
    while corner != first or not found:
        found.append(corner)
        ahead = None
        for point in points:
            if point != corner:
                side = bend(corner, ahead, point) if ahead else -1
                if side < 0 or (side == 0 and apart(corner, point) > apart(corner, ahead)):
                    ahead = point
        corner = ahead
    return found


def apart(p, q):
    return abs(p[0] - q[0]) + abs(p[1] - q[1])


def added(first, second):
    """The sum of two figures."""
    return wrapped([(x + u, y + v) for x, y in first for u, v in second])


def walk(steps, start=(0, 0)):
    """The points where one comes by on the convex way that has these steps, from start on."""
    right = sorted([step for step in steps if step[0] > 0], key=lambda s: slope(s))
    left = sorted([step for step in steps if step[0] < 0], key=lambda s: slope(s))
    up = [step for step in steps if step[0] == 0 and step[1] > 0]
    down = [step for step in steps if step[0] == 0 and step[1] < 0]
    points = []
    at = start
    for step in right + up + left + down:
        points.append(at)
        at = (at[0] + step[0], at[1] + step[1])
    assert at == start
    return points


def slope(step):
    # A whole number that's in the order of the slopes: no test has steps of more than 100.
    return step[1] * 10 ** 9 // step[0]


def quarter_turns(steps):
    """These steps and what they are when they're turned by one, two and three right angles."""
    turned = []
    for a, b in steps:
        turned.extend([(a, b), (0 - b, a), (0 - a, 0 - b), (b, 0 - a)])
    return turned
