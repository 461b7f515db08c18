"""Sides: sets of places as numbers, what leaves them, and the cut of one place from another.

Lines come here as a dict: each line's number, and behind it its two places and what it lets through.
"""

PLACES = 8
SIDES = 256


def holds(side, place):
    """Whether the place is in the side."""
    return (side >> place) & 1 == 1


def edge_of(lines, side):
    """What all lines with one end in the side and one out of it let through, together."""
    through = 0
    for a, b, most in lines.values():
        # The bits of the two ends differ just where one is in and one out.
        if ((side >> a) ^ (side >> b)) & 1:
            through += most
    return through


def cut_of(lines, a, b):
    """The side with a and not b that has the least edge; of these the least number."""
    parting = [side for side in range(SIDES) if holds(side, a) and not holds(side, b)]
    # The sides go upward and min keeps the first of equals, so the least number stays.
    return min(parting, key=lambda side: edge_of(lines, side))
