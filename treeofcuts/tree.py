"""The tree: below which place each hangs, with what weight, and what that tells of two places."""

from treeofcuts.sides import PLACES, cut_of, edge_of, holds


class Tree:
    """The tree of the lines that it is made from; place 0 is its top and has no step of its own."""

    def __init__(self, lines):
        self.above = [0] * PLACES
        self.weights = [0] * PLACES
        for place in range(1, PLACES):
            self.part_from_above(lines, place)

    def part_from_above(self, lines, place):
        """Weigh the place's step, and hang below it those behind it that its cut takes along."""
        upper = self.above[place]
        cut = cut_of(lines, place, upper)
        self.weights[place] = edge_of(lines, cut)
        for behind in range(place + 1, PLACES):
            if self.above[behind] == upper and holds(cut, behind):
                self.above[behind] = place

    def least_step(self, a, b):
        """The least weight of the steps on the way between two places."""
        passed = []
        here = a
        there = b
        # A place hangs below a lesser number, so the greater of the two can't be on the other's way up.
        while here != there:
            if here > there:
                passed.append(self.weights[here])
                here = self.above[here]
            else:
                passed.append(self.weights[there])
                there = self.above[there]
        return min(passed)
