"""Sides: sets of places as numbers, what leaves them, the cut of one place from another, and the weakest of all.

Lines come here as a dict: each line's number, and behind it its two places and what it lets through.
"""

PLACES = 8
SIDES = 256


def holds(side, place):
    """Whether the place is in the side."""
    return (side >> place) & 1 == 1


def edge_of(lines, side):
    """What all lines with one end in the side and one out of it let through, together."""
    through = 0
    for a, b, most in lines.values():
        # The bits of the two ends differ just where one is in and one out.
        if ((side >> a) ^ (side >> b)) & 1:
            through += most
    return through


def least_edged(lines, sides):
    """Of the sides, which go upward, the one with the least edge; of these the least number."""
    # min keeps the first of equals, so the least number stays.
    return min(sides, key=lambda side: edge_of(lines, side))


def cut_of(lines, a, b):
    """The side with a and not b that has the least edge; of these the least number."""
    return least_edged(lines, [side for side in range(SIDES) if holds(side, a) and not holds(side, b)])


def weakest_side(lines):
    """The side that has the least edge, but for the empty one and that of all places; of these the least number."""
    return least_edged(lines, list(range(1, SIDES - 1)))
