"""A figure's width: how far it goes in the direction in which it goes least far."""


def reach(figure, direction):
    """How far the figure goes in a direction (a, b)."""
    heights = [direction[0] * x + direction[1] * y for x, y in figure]
    return max(heights) - min(heights)


def moved(direction, times, other):
    """The direction with the other one added to it so many times."""
    return (direction[0] + times * other[0], direction[1] + times * other[1])


def lowered(figure, long, short):
    """Of long with short added any number of times, or taken away, the one with the least reach."""
    # Beyond this many times the reach is more than that of long itself.
    high = 2 * reach(figure, long) // reach(figure, short)
    low = 0 - high
    # The reach falls, then rises, as the times grow: so the first rise can be halved for.
    while low < high:
        middle = (low + high) // 2
        here = reach(figure, moved(long, middle, short))
        if reach(figure, moved(long, middle + 1, short)) < here:
            low = middle + 1
        else:
            high = middle
    return moved(long, low, short)


def width(figure):
    """The least reach in all directions of two whole numbers, not both 0."""
    short = (1, 0)
    long = (0, 1)
    # Each direction is m times short and n times long, and the reach is a norm. Once short reaches no
    # farther than long, and long can't be lowered, no direction reaches less far than short:
    # - n is 0: it reaches m times as far as short;
    # - n is 1 or -1: it reaches as far as long at the least;
    # - else: with q the whole number nearest to m / n, it reaches at least n times as far as
    #   long + q * short, less n / 2 times short, so at least n / 2 times as far as short.
    # Until then the lesser reach of the two falls each time round, so this ends.
    while True:
        if reach(figure, long) < reach(figure, short):
            kept = short
            short = long
            long = kept
        long = lowered(figure, long, short)
        if reach(figure, short) <= reach(figure, long):
            return reach(figure, short)
