"""tr_between: promise 5, the words of 'Lines and cuts', and what holds of every two places."""

import unittest

from asking import (
    HIGHEST, PAIRS, ask, ask_of, between, crossing, drop, flow, line, members_of, nets, number_of, wide,
)


class Refused(unittest.TestCase):
    def test_places_above_7(self):
        for far in (8, 9, 256, HIGHEST):
            with self.subTest(far=far):
                self.assertEqual(ask(between(far, 0), between(0, far), between(far, far)), [[-22]] * 3)

    def test_the_same_place_twice(self):
        for place in range(8):
            with self.subTest(place=place):
                self.assertEqual(ask(between(place, place)), [[-22]])

    def test_leaves_all(self):
        told = ask(line(0, 7, 5), between(0, 8), between(7, 7), between(0, 7), line(0, 7, 1))
        self.assertEqual(told, [[0], [-22], [-22], [5, 1], [1]])


class Between(unittest.TestCase):
    def test_no_lines_at_all(self):
        for a, b in PAIRS:
            with self.subTest(a=a, b=b):
                self.assertEqual(ask(between(a, b)), [[0, 2 ** a]])

    def test_a_row_of_lines_is_cut_at_the_least(self):
        row = [line(0, 1, 9), line(1, 2, 4), line(2, 3, 7)]
        told = ask(*row, between(0, 3), between(3, 0), between(0, 1), between(2, 3))
        self.assertEqual(told[3:], [[4, 3], [4, 12], [9, 1], [7, 7]])

    def test_two_ways_round_add_up(self):
        told = ask(line(0, 1, 3), line(1, 2, 5), line(0, 3, 4), line(3, 2, 2), between(0, 2), between(2, 0))
        self.assertEqual(told[4:], [[5, 9], [5, 6]])

    def test_lines_that_come_change_and_go(self):
        told = ask(
            line(0, 1, 10), line(1, 2, 3), between(0, 2), wide(1, 20), between(0, 2),
            line(0, 2, 5), between(0, 2), drop(0), between(0, 2), between(0, 1),
            wide(2, 50), between(1, 0), drop(1), drop(2), between(0, 2),
        )
        self.assertEqual(told, [
            [0], [1], [3, 3], [0], [10, 1],
            [2], [15, 1], [0], [5, 1], [5, 1],
            [0], [20, 2], [0], [0], [0, 1],
        ])

    def test_of_equal_edges_the_least_number(self):
        row = [line(0, 1, 6), line(1, 2, 6), line(2, 3, 6)]
        told = ask(*row, between(0, 3), between(3, 0), between(1, 3))
        self.assertEqual(told[3:], [[6, 1], [6, 8], [6, 3]])

    def test_what_hangs_on_a_goes_with_it(self):
        told = ask(line(0, 7, 2), line(7, 1, 2), line(1, 2, 2), between(7, 2), between(7, 1))
        self.assertEqual(told[3:], [[2, 129], [2, 129]])

    def test_places_that_nothing_joins_stay_out_of_the_cut(self):
        self.assertEqual(ask(line(4, 6, 8), line(0, 1, 5), between(4, 6))[2:], [[8, 16]])

    def test_the_full_24_lines_of_1000(self):
        told = ask(*[line(3, 5, 1000)] * 24, between(3, 5), between(5, 3), between(3, 4))
        self.assertEqual(told[24:], [[24000, 8], [24000, 32], [0, 40]])


class WhatHolds(unittest.TestCase):
    def told_of_all(self, lines):
        return dict(zip(PAIRS, ask_of(lines, *[between(a, b) for a, b in PAIRS])))

    def test_just_so_much_does_go(self):
        for lines in nets():
            told = self.told_of_all(lines)
            for a, b in PAIRS:
                sent, reached = flow(lines, a, b)
                with self.subTest(lines=lines, a=a, b=b):
                    self.assertEqual(told[a, b], [sent, number_of(reached)])

    def test_the_cut_is_the_least_number_of_the_least_edge(self):
        for lines in nets():
            edges = {side: crossing(lines, members_of(side)) for side in range(256)}
            told = self.told_of_all(lines)
            for a, b in PAIRS:
                parting = [side for side in edges if a in members_of(side) and b not in members_of(side)]
                best = sorted((edges[side], side) for side in parting)[0]
                with self.subTest(lines=lines, a=a, b=b):
                    self.assertEqual(told[a, b], list(best))

    def test_either_way_as_much_and_no_less_than_by_a_third(self):
        for lines in nets():
            told = self.told_of_all(lines)
            for a, b in PAIRS:
                self.assertEqual(told[a, b][0], told[b, a][0])
                for third in set(range(8)) - {a, b}:
                    self.assertGreaterEqual(told[a, b][0], min(told[a, third][0], told[third, b][0]))


if __name__ == "__main__":
    unittest.main()
