"""tr_tree and tr_told: promises 6 and 7, the words of 'The tree', and what holds of it."""

import unittest

from asking import (
    HIGHEST, LINES_AT_MOST, PAIRS, START, TREE, ask, ask_of, between, crossing, drop, joined, least_step, line,
    lines_of, nets, ring_of, shipped, told, tree_by_flow, wide,
)

ROW = [(0, 1, 9), (1, 2, 4), (2, 3, 7)]


def tree_of(lines):
    """What hangs where and with what weight, as two rows; that tr_tree answers 0 is seen to."""
    answer, = ask_of(lines, TREE)
    assert answer[0] == 0 and len(answer) == 17, answer
    return answer[1:9], answer[9:]


class Tree(unittest.TestCase):
    def test_no_lines_at_all(self):
        self.assertEqual(ask(TREE), [[0] + [0] * 16])

    def test_place_0_is_0_with_0(self):
        for lines in nets():
            hangs, weights = tree_of(lines)
            self.assertEqual((hangs[0], weights[0]), (0, 0))

    def test_one_line(self):
        self.assertEqual(ask(line(0, 7, 5), TREE)[1:], [[0] + [0] * 8 + [0] * 7 + [5]])

    def test_below_another_place_than_0(self):
        self.assertEqual(tree_of([(4, 6, 8)]), ([0, 0, 0, 0, 0, 0, 4, 0], [0, 0, 0, 0, 0, 0, 8, 0]))

    def test_below_another_one_more_than_once(self):
        # Place 3 hangs below 0, then below 1 and at last below 2.
        self.assertEqual(tree_of(ROW), ([0, 0, 1, 2, 0, 0, 0, 0], [0, 9, 4, 7, 0, 0, 0, 0]))

    def test_a_row_of_all_places(self):
        row = [(place, place + 1, 10 - place) for place in range(7)]
        self.assertEqual(tree_of(row), ([0, 0, 1, 2, 3, 4, 5, 6], [0, 10, 9, 8, 7, 6, 5, 4]))

    def test_only_places_behind_come_to_hang_below(self):
        # The cut of 3 from 0 has 1 and 2 too, but these are ahead of 3.
        star = [(0, 3, 10), (3, 1, 2), (3, 2, 1)]
        self.assertEqual(tree_of(star), ([0, 0, 0, 0, 0, 0, 0, 0], [0, 2, 1, 10, 0, 0, 0, 0]))

    def test_only_what_hangs_below_the_same_one_comes_along(self):
        # The cut of 2 from 0 has 3 too, but 3 hangs below 1 by then.
        net = [(0, 2, 5), (2, 1, 2), (1, 3, 9)]
        self.assertEqual(tree_of(net), ([0, 0, 0, 1, 0, 0, 0, 0], [0, 2, 5, 9, 0, 0, 0, 0]))

    def test_of_equal_edges_the_least_number_decides(self):
        # The sides {1} and {1, 2} both part 1 from 0 with an edge of 5; only with {1, 2} would 2 hang below 1.
        self.assertEqual(tree_of([(0, 1, 3), (1, 2, 2), (0, 2, 2)])[0], [0] * 8)
        self.assertEqual(tree_of([(0, 1, 3), (1, 2, 2), (0, 2, 1)])[0], [0, 0, 1, 0, 0, 0, 0, 0])

    def test_of_equal_edges_the_least_number_decides_further_down(self):
        # By then 3 and 4 hang below 1; {3} and {3, 4} both part 3 from 1 with an edge of 8.
        net = [(0, 1, 1), (1, 3, 5), (3, 4, 3), (1, 4, 3)]
        self.assertEqual(tree_of(net), ([0, 0, 0, 1, 1, 0, 0, 0], [0, 1, 0, 8, 6, 0, 0, 0]))

    def test_the_full_24_lines_of_1000(self):
        self.assertEqual(tree_of([(3, 5, 1000)] * 24), ([0, 0, 0, 0, 0, 3, 0, 0], [0, 0, 0, 0, 0, 24000, 0, 0]))
        self.assertEqual(tree_of(ring_of(1000)), ([0] * 8, [0] + [6000] * 7))

    def test_nets_by_the_words_of_the_document(self):
        for lines in nets():
            with self.subTest(lines=lines):
                self.assertEqual(ask_of(lines, TREE), [[0] + tree_by_flow(lines)])

    def test_each_hangs_below_a_lesser_number(self):
        for lines in nets():
            hangs = tree_of(lines)[0]
            for place in range(1, 8):
                self.assertLess(hangs[place], place)


class Told(unittest.TestCase):
    def test_no_lines_at_all(self):
        self.assertEqual(ask(*[told(a, b) for a, b in PAIRS]), [[0]] * len(PAIRS))

    def test_the_least_step_on_the_way(self):
        got = ask_of(ROW, told(0, 1), told(1, 2), told(2, 3), told(0, 2), told(0, 3), told(1, 3), told(0, 4))
        self.assertEqual(got, [[9], [4], [7], [4], [4], [4], [0]])

    def test_the_other_way_round(self):
        got = ask_of(ROW, told(1, 0), told(2, 1), told(3, 2), told(2, 0), told(3, 0), told(3, 1), told(4, 0))
        self.assertEqual(got, [[9], [4], [7], [4], [4], [4], [0]])

    def test_up_one_branch_and_down_another(self):
        # 3 hangs below 1 and 4 below 2, both of which hang below 0.
        net = [(0, 1, 6), (1, 3, 8), (0, 2, 5), (2, 4, 7)]
        self.assertEqual(tree_of(net)[0], [0, 0, 0, 1, 2, 0, 0, 0])
        self.assertEqual(ask_of(net, told(3, 4), told(4, 3), told(1, 4), told(3, 2)), [[5], [5], [5], [5]])

    def test_only_steps_on_the_way_count(self):
        # Both hang below 1, and the step from 1 to 0, with the least weight, is not on the way.
        net = [(0, 1, 1), (1, 2, 8), (1, 3, 9)]
        self.assertEqual(ask_of(net, told(2, 3), told(3, 2), told(3, 1), told(2, 0)), [[8], [8], [9], [1]])

    def test_place_0_and_place_7(self):
        self.assertEqual(ask(line(7, 0, 5), told(0, 7), told(7, 0), told(6, 7)), [[0], [5], [5], [0]])

    def test_the_full_24_lines_of_1000(self):
        got = ask(*lines_of(1000), told(0, 1), told(1, 0), told(1, 2))
        self.assertEqual(got[LINES_AT_MOST:], [[24000], [24000], [0]])
        self.assertEqual(ask_of(ring_of(1000), *[told(a, b) for a, b in PAIRS]), [[6000]] * len(PAIRS))

    def test_places_above_7_are_refused(self):
        for far in (8, 9, 255, 256, HIGHEST):
            with self.subTest(far=far):
                self.assertEqual(ask(told(far, 0), told(0, far), told(7, far), told(far, far)), [[-22]] * 4)
                self.assertEqual(ask_of(ROW, told(far, 0), told(0, far), told(far, far)), [[-22]] * 3)

    def test_the_same_place_twice_is_refused(self):
        for place in range(8):
            with self.subTest(place=place):
                self.assertEqual(ask_of(ROW, told(place, place)), [[-22]])

    def test_a_refusal_leaves_all(self):
        got = ask_of(ROW, told(8, 0), told(0, 8), told(3, 3), TREE, told(0, 3), line(4, 5, 1))
        self.assertEqual(got, [[-22]] * 3 + [[0, 0, 0, 1, 2, 0, 0, 0, 0, 0, 9, 4, 7, 0, 0, 0, 0], [4], [3]])


class FoundAnew(unittest.TestCase):
    def test_when_lines_come_change_and_go(self):
        got = ask(
            line(0, 1, 10), line(1, 2, 3), TREE, told(0, 2), wide(1, 20), told(0, 2),
            line(0, 2, 5), TREE, told(0, 2), drop(0), TREE, told(0, 1),
            wide(2, 50), told(1, 0), drop(1), drop(2), TREE, told(0, 2),
        )
        self.assertEqual(got[2:], [
            [0, 0, 0, 1, 0, 0, 0, 0, 0, 0, 10, 3, 0, 0, 0, 0, 0], [3], [0], [10],
            [2], [0, 0, 0, 1, 0, 0, 0, 0, 0, 0, 15, 25, 0, 0, 0, 0, 0], [15],
            [0], [0, 0, 0, 1, 0, 0, 0, 0, 0, 0, 5, 20, 0, 0, 0, 0, 0], [5],
            [0], [20], [0], [0], [0] * 17, [0],
        ])

    def test_when_a_start_comes_in_the_midst(self):
        got = ask(line(0, 1, 5), TREE, told(0, 1), START, TREE, told(0, 1), line(0, 2, 7), TREE, told(2, 0))
        self.assertEqual(got, [
            [0], [0] * 10 + [5] + [0] * 6, [5], [0], [0] * 17, [0], [0], [0] * 11 + [7] + [0] * 5, [7],
        ])

    def test_a_refused_call_changes_no_tree(self):
        refused = [line(0, 8, 1), line(1, 1, 1), line(0, 1, 1001), drop(3), wide(3, 5), wide(0, 1001), drop(24)]
        got = ask_of(ROW, TREE, *refused, TREE)
        self.assertEqual(got[1:-1], [[-22], [-22], [-22], [-2], [-2], [-22], [-2]])
        self.assertEqual(got[0], got[-1])


class WhatHolds(unittest.TestCase):
    @classmethod
    def setUpClass(cls):
        """What is told of all pairs, for each net, asked for once."""
        calls = [told(a, b) for a, b in PAIRS]
        cls.told_of = [(lines, dict(zip(PAIRS, ask_of(lines, *calls)))) for lines in nets()]

    def test_as_much_as_is_told_does_go_in_whole_numbers(self):
        for lines, got in self.told_of:
            straight = joined(lines)
            for a, b in PAIRS:
                moved, _ = shipped(lines, a, b)
                with self.subTest(lines=lines, a=a, b=b):
                    self.assertTrue(all(moved[x][y] == -moved[y][x] <= straight[x][y] for x, y in PAIRS))
                    self.assertEqual([sum(moved[place]) for place in range(8) if place not in (a, b)], [0] * 6)
                    self.assertEqual(got[a, b], [sum(moved[a])])
                    self.assertEqual({type(much) for row in [*moved, got[a, b]] for much in row}, {int})

    def test_more_does_not_go(self):
        for lines, got in self.told_of:
            for a, b in PAIRS:
                _, reached = shipped(lines, a, b)
                with self.subTest(lines=lines, a=a, b=b):
                    self.assertTrue(a in reached and b not in reached)
                    self.assertEqual(got[a, b], [crossing(lines, reached)])

    def test_it_is_the_least_step_of_the_tree_that_is_answered(self):
        for lines, got in self.told_of:
            sixteen = ask_of(lines, TREE)[0][1:]
            for a, b in PAIRS:
                with self.subTest(lines=lines, a=a, b=b):
                    self.assertEqual(got[a, b], [least_step(sixteen, a, b)])

    def test_the_same_is_told_as_goes_between_either_way(self):
        for lines, got in self.told_of:
            for a, b in PAIRS:
                one_way, other_way = ask_of(lines, between(a, b), between(b, a))
                with self.subTest(lines=lines, a=a, b=b):
                    self.assertEqual([got[a, b], got[b, a]], [one_way[:1], other_way[:1]])
                    self.assertEqual(got[a, b], got[b, a])

    def test_no_less_than_by_a_third(self):
        for lines, got in self.told_of:
            for a, b in PAIRS:
                for third in set(range(8)) - {a, b}:
                    self.assertGreaterEqual(got[a, b], min(got[a, third], got[third, b]))


if __name__ == "__main__":
    unittest.main()
