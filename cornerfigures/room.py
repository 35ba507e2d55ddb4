"""Room: the whole shifts that put one figure into another one."""

from cornerfigures.figures import edges, farthest_out


def limits(outer, inner):
    """What keeps the inner figure in: for each edge (right, up, spare), a*up - b*right <= spare of a shift (a, b)."""
    found = []
    for start, end in edges(outer):
        spare = farthest_out(outer, start, end) - farthest_out(inner, start, end)
        found.append((end[0] - start[0], end[1] - start[1], spare))
    return found


def shifts_along(found, a):
    """How many b there are such that (a, b) keeps to the limits of all edges but the upright ones."""
    # A division rounds down; where b is a least one the sign is turned ahead of it and behind it, to round up.
    least = max([-((spare - a * up) // right) for right, up, spare in found if right > 0])
    greatest = min([(a * up - spare) // right for right, up, spare in found if right < 0])
    return max(0, greatest - least + 1)


def shifts(outer, inner):
    """How many whole shifts put the inner figure into the outer one."""
    found = limits(outer, inner)
    outer_across = [x for x, y in outer]
    inner_across = [x for x, y in inner]
    # These ends of a hold for all shifts, and are the limits of the upright edges.
    least = min(outer_across) - min(inner_across)
    greatest = max(outer_across) - max(inner_across)
    return sum([shifts_along(found, a) for a in range(least, greatest + 1)])
