"""Parting a figure into two: of each edge none to all steps are chosen, so that they add up to (0, 0)."""

from cornerfigures.figures import edges, one_step, steps


def with_edge(ways, start, end):
    """The ways by what they add up to, once none to all steps of one more edge are chosen, too."""
    count = steps(start, end)
    step = one_step(start, end)
    more = {}
    for reached, number in ways.items():
        for chosen in range(count + 1):
            point = (reached[0] + chosen * step[0], reached[1] + chosen * step[1])
            more[point] = more.get(point, 0) + number
    return more


def ways_by_sum(some_edges):
    """In how many ways steps of these edges can be chosen, for each point that they can add up to."""
    ways = {(0, 0): 1}
    for start, end in some_edges:
        ways = with_edge(ways, start, end)
    return ways


def partings(figure):
    """In how many ways the figure is parted into two."""
    rim = edges(figure)
    half = len(rim) // 2
    # Each half adds up to some thousand points at the most; all edges at once to many more.
    ahead = ways_by_sum(rim[:half])
    behind = ways_by_sum(rim[half:])
    return sum([number * behind.get((-point[0], -point[1]), 0) for point, number in ahead.items()])
