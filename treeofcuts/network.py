"""The one object that the calls are made on: its lines, and what is answered of them.

Each call's method gives back a list: the number that is answered, and behind it what else is.
"""

from treeofcuts.sides import PLACES, SIDES, cut_of, edge_of, weakest_side
from treeofcuts.tree import Tree

MOST_LINES = 24
MOST_THROUGH = 1000

# A refusal is answered as one of these numbers below 0.
NO_SUCH_LINE = 2
WRONG_VALUE = 22
NO_ROOM = 28


def refused(reason):
    """The answer of a call that is refused: nothing else stands behind it."""
    return [-reason]


def wrong_pair(a, b):
    """Whether a and b are not two places."""
    return a >= PLACES or b >= PLACES or a == b


def least_free(lines):
    """The least number that no line has."""
    number = 0
    while number in lines:
        number += 1
    return number


class Network:
    """The places and the lines that join them."""

    def __init__(self):
        self.lines = {}

    def start_anew(self):
        """tr_start: there are no lines."""
        self.lines = {}
        return [0]

    def add_line(self, a, b, most):
        """tr_line: one line more, with the least number that is free."""
        if wrong_pair(a, b) or most > MOST_THROUGH:
            return refused(WRONG_VALUE)
        if len(self.lines) >= MOST_LINES:
            return refused(NO_ROOM)
        number = least_free(self.lines)
        self.lines[number] = (a, b, most)
        return [number]

    def drop_line(self, line):
        """tr_drop: the line is gone."""
        if line not in self.lines:
            return refused(NO_SUCH_LINE)
        self.lines.pop(line)
        return [0]

    def widen_line(self, line, most):
        """tr_wide: the line lets so much through from now on."""
        if most > MOST_THROUGH:
            return refused(WRONG_VALUE)
        if line not in self.lines:
            return refused(NO_SUCH_LINE)
        ends = self.lines[line]
        self.lines[line] = (ends[0], ends[1], most)
        return [0]

    def between(self, a, b):
        """tr_between: how much goes between a and b at most, and the cut of a from b."""
        if wrong_pair(a, b):
            return refused(WRONG_VALUE)
        cut = cut_of(self.lines, a, b)
        return [edge_of(self.lines, cut), cut]

    def whole_tree(self):
        """tr_tree: of each place below which it hangs, then of each its weight."""
        tree = Tree(self.lines)
        return [0] + tree.above + tree.weights

    def told_between(self, a, b):
        """tr_told: what the tree tells of two places."""
        if wrong_pair(a, b):
            return refused(WRONG_VALUE)
        return [Tree(self.lines).least_step(a, b)]

    def edge(self, side):
        """tr_edge: the edge of the side."""
        if side >= SIDES:
            return refused(WRONG_VALUE)
        return [edge_of(self.lines, side)]

    def weakest(self):
        """tr_weakest: the least edge of all, and the side that has it."""
        side = weakest_side(self.lines)
        return [edge_of(self.lines, side), side]
