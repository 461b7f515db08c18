"""tr_edge and tr_weakest: promises 8 and 9, and what holds of the weakest."""

import unittest

from asking import (
    HIGHEST, LINES_AT_MOST, PAIRS, START, WEAKEST, ask, ask_of, crossing, drop, edge, line, lines_of, members_of,
    nets, ring_of, told, weakest_by_flow, wide,
)

ROUND = [(0, 1, 3), (1, 2, 5), (0, 3, 4), (3, 2, 2)]


class Edge(unittest.TestCase):
    def test_no_lines_at_all(self):
        self.assertEqual(ask(*[edge(side) for side in range(256)]), [[0]] * 256)

    def test_lines_with_one_end_in_and_one_out(self):
        got = ask_of(ROUND, edge(1), edge(2), edge(4), edge(8), edge(3), edge(5), edge(9), edge(15), edge(16))
        self.assertEqual(got, [[7], [8], [7], [6], [9], [14], [5], [0], [0]])

    def test_two_lines_that_join_the_same_places(self):
        self.assertEqual(ask_of([(2, 5, 30), (5, 2, 12)], edge(4), edge(32), edge(36)), [[42], [42], [0]])

    def test_side_0_and_side_255(self):
        for lines in nets():
            self.assertEqual(ask_of(lines, edge(0), edge(255)), [[0], [0]])

    def test_place_0_and_place_7(self):
        self.assertEqual(ask(line(0, 7, 6), edge(1), edge(128), edge(129), edge(127), edge(254)),
                         [[0], [6], [6], [0], [6], [6]])

    def test_every_side_of_nets(self):
        for lines in nets():
            wanted = [[crossing(lines, members_of(side))] for side in range(256)]
            with self.subTest(lines=lines):
                self.assertEqual(ask_of(lines, *[edge(side) for side in range(256)]), wanted)

    def test_the_full_24_lines_of_1000(self):
        got = ask(*lines_of(1000), edge(1), edge(2), edge(253), edge(3))
        self.assertEqual(got[LINES_AT_MOST:], [[24000], [24000], [24000], [0]])
        self.assertEqual(ask_of(ring_of(1000), edge(85), edge(170), edge(1), edge(15)),
                         [[24000], [24000], [6000], [6000]])

    def test_sides_above_255_are_refused(self):
        for far in (256, 257, 511, 65536, HIGHEST):
            with self.subTest(far=far):
                self.assertEqual(ask(edge(far)), [[-22]])
                self.assertEqual(ask_of(ROUND, edge(far), edge(1), line(4, 5, 9)), [[-22], [7], [4]])

    def test_as_lines_come_change_and_go(self):
        got = ask(
            line(0, 1, 5), edge(1), line(0, 2, 7), edge(1), wide(0, 9), edge(1), edge(2),
            drop(1), edge(1), edge(4), START, edge(1), line(0, 3, 2), edge(1), edge(8),
        )
        self.assertEqual(got, [
            [0], [5], [1], [12], [0], [16], [9], [0], [9], [0], [0], [0], [0], [2], [2],
        ])


class Weakest(unittest.TestCase):
    def test_no_lines_at_all(self):
        self.assertEqual(ask(WEAKEST), [[0, 1]])

    def test_places_that_nothing_joins(self):
        self.assertEqual(ask(line(0, 1, 5), WEAKEST)[1:], [[0, 3]])
        self.assertEqual(ask(line(6, 7, 5), WEAKEST)[1:], [[0, 1]])
        self.assertEqual(ask(line(0, 7, 5), WEAKEST)[1:], [[0, 2]])

    def test_the_least_edge_in_the_midst_of_a_row(self):
        row = [(place, place + 1, (6, 5, 3, 4, 7, 8, 9)[place]) for place in range(7)]
        # {0, 1, 2} and all but these have the same edge.
        self.assertEqual(ask_of(row, WEAKEST, edge(7), edge(248)), [[3, 7], [3], [3]])

    def test_all_places_but_one_when_that_one_has_a_greater_number(self):
        for place in range(1, 8):
            star = [(0, other, 2 if other == place else 9) for other in range(1, 8)]
            wanted = min(2 ** place, 255 - 2 ** place)
            with self.subTest(place=place):
                self.assertEqual(ask_of(star, WEAKEST), [[2, wanted]])
        self.assertEqual(wanted, 127)

    def test_of_equal_edges_the_least_number(self):
        self.assertEqual(ask_of(ring_of(1), WEAKEST), [[6, 1]])
        star = [(7, other, 4) for other in range(7)]
        self.assertEqual(ask_of(star, WEAKEST), [[4, 1]])
        row = [(place, place + 1, (6, 3, 5, 3, 5, 3, 6)[place]) for place in range(7)]
        self.assertEqual(ask_of(row, WEAKEST), [[3, 3]])

    def test_never_the_empty_side_nor_that_of_all_places(self):
        for lines in [[], [(0, 1, 1)], ring_of(1000), *nets()]:
            side = ask_of(lines, WEAKEST)[0][1]
            self.assertNotIn(side, (0, 255))
            self.assertLess(side, 255)

    def test_the_full_24_lines_of_1000(self):
        self.assertEqual(ask(*lines_of(1000), WEAKEST)[LINES_AT_MOST:], [[0, 3]])
        self.assertEqual(ask_of(ring_of(1000), WEAKEST), [[6000, 1]])

    def test_nets_by_what_parts_any_two_places(self):
        for lines in nets():
            with self.subTest(lines=lines):
                self.assertEqual(ask_of(lines, WEAKEST), [weakest_by_flow(lines)])

    def test_nets_side_by_side(self):
        for lines in nets():
            best = min((crossing(lines, members_of(side)), side) for side in range(1, 255))
            with self.subTest(lines=lines):
                self.assertEqual(ask_of(lines, WEAKEST), [list(best)])

    def test_as_lines_come_change_and_go(self):
        ring = [line(place, (place + 1) % 8, 10) for place in range(8)]
        got = ask(*ring, WEAKEST, wide(2, 3), WEAKEST, drop(5), WEAKEST, line(2, 3, 50), WEAKEST,
                  START, WEAKEST, line(0, 1, 5), WEAKEST)
        self.assertEqual(got[8:], [
            [20, 1], [0], [13, 4], [0], [3, 56], [5], [10, 32], [0], [0, 1], [0], [0, 3],
        ])


class WhatHolds(unittest.TestCase):
    def test_the_weakest_is_the_least_of_all_pairs(self):
        for lines in nets():
            got = ask_of(lines, WEAKEST, *[told(a, b) for a, b in PAIRS])
            with self.subTest(lines=lines):
                self.assertEqual(got[0][0], min(answer for answer, in got[1:]))

    def test_the_weakest_side_has_the_edge_that_is_answered(self):
        for lines in nets():
            (least, side), = ask_of(lines, WEAKEST)
            self.assertEqual(ask_of(lines, edge(side)), [[least]])


if __name__ == "__main__":
    unittest.main()
