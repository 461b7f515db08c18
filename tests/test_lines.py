"""The calls that make lines come, change and go: promises 1 to 4 and the row ahead of them."""

import unittest

from asking import HIGHEST, LINES_AT_MOST, START, ask, between, drop, line, lines_of, wide


class Start(unittest.TestCase):
    def test_answers_0(self):
        self.assertEqual(ask(), [])
        self.assertEqual(ask(START), [[0]])

    def test_in_the_midst_takes_all_lines_away(self):
        told = ask(line(0, 1, 5), line(1, 2, 6), START, between(0, 1), between(1, 2), drop(0), wide(1, 3))
        self.assertEqual(told, [[0], [1], [0], [0, 1], [0, 2], [-2], [-2]])

    def test_in_the_midst_frees_all_numbers(self):
        told = ask(*lines_of(1), START, *lines_of(2), between(0, 1))
        numbers = [[number] for number in range(LINES_AT_MOST)]
        self.assertEqual(told, numbers + [[0]] + numbers + [[48, 1]])

    def test_may_be_called_again_and_again(self):
        told = ask(START, START, line(2, 3, 9), START, line(2, 3, 4), between(3, 2))
        self.assertEqual(told, [[0], [0], [0], [0], [0], [4, 8]])


class Line(unittest.TestCase):
    def test_numbers_go_upward_from_0(self):
        self.assertEqual(ask(line(0, 1, 1), line(5, 2, 7), line(3, 4, 0)), [[0], [1], [2]])

    def test_two_may_join_the_same_places(self):
        self.assertEqual(ask(line(2, 5, 30), line(5, 2, 12), between(2, 5)), [[0], [1], [42, 4]])

    def test_places_from_0_to_7(self):
        self.assertEqual(ask(line(0, 7, 3), line(7, 0, 4), between(0, 7)), [[0], [1], [7, 1]])

    def test_places_above_7_are_refused(self):
        for far in (8, 9, 32, 256, HIGHEST):
            with self.subTest(far=far):
                told = ask(line(far, 0, 1), line(0, far, 1), line(far, far, 1), line(0, 1, 2))
                self.assertEqual(told, [[-22], [-22], [-22], [0]])

    def test_the_same_place_twice_is_refused(self):
        for place in range(8):
            with self.subTest(place=place):
                self.assertEqual(ask(line(place, place, 1), line(0, 1, 1)), [[-22], [0]])

    def test_most_from_0_to_1000(self):
        told = ask(line(0, 1, 0), between(0, 1), line(0, 1, 1000), between(0, 1))
        self.assertEqual(told, [[0], [0, 1], [1], [1000, 1]])

    def test_most_above_1000_is_refused(self):
        for much in (1001, HIGHEST):
            with self.subTest(much=much):
                told = ask(line(0, 1, much), between(0, 1), line(0, 1, 1))
                self.assertEqual(told, [[-22], [0, 1], [0]])

    def test_24_and_one_more(self):
        told = ask(*lines_of(1000), line(0, 1, 1), line(6, 7, 1), between(0, 1), between(6, 7))
        self.assertEqual(told[:24], [[number] for number in range(24)])
        self.assertEqual(told[24:], [[-28], [-28], [24000, 1], [0, 64]])

    def test_a_line_of_0_takes_a_number_too(self):
        self.assertEqual(ask(*lines_of(0), line(0, 1, 0))[23:], [[23], [-28]])

    def test_wrong_values_are_told_ahead_of_no_room(self):
        wrong = (line(8, 0, 1), line(0, 8, 1), line(3, 3, 1), line(0, 1, 1001), line(HIGHEST, HIGHEST, HIGHEST))
        self.assertEqual(ask(*lines_of(1), *wrong)[24:], [[-22]] * 5)

    def test_the_least_free_number_after_a_drop_in_the_middle(self):
        told = ask(*[line(0, 1, 1)] * 5, drop(3), drop(1), *[line(2, 3, 1)] * 3)
        self.assertEqual(told, [[0], [1], [2], [3], [4], [0], [0], [1], [3], [5]])

    def test_one_more_when_one_of_24_has_gone(self):
        told = ask(*lines_of(1), drop(11), line(4, 5, 8), line(4, 5, 8), between(4, 5), between(0, 1))
        self.assertEqual(told[24:], [[0], [11], [-28], [8, 16], [23, 1]])


class Drop(unittest.TestCase):
    def test_what_is_dropped_lets_nothing_through(self):
        told = ask(line(0, 1, 5), line(0, 1, 7), drop(0), between(0, 1), drop(1), between(0, 1))
        self.assertEqual(told, [[0], [1], [0], [7, 1], [0], [0, 1]])

    def test_the_other_lines_keep_their_numbers(self):
        told = ask(line(0, 1, 5), line(1, 2, 7), line(2, 3, 9), drop(1), wide(2, 4), between(2, 3), wide(0, 6))
        self.assertEqual(told[3:], [[0], [0], [4, 4], [0]])

    def test_no_such_line(self):
        self.assertEqual(ask(drop(0), line(0, 1, 1), drop(1), drop(0), drop(0)), [[-2], [0], [-2], [0], [-2]])

    def test_number_23_and_24(self):
        told = ask(drop(23), *lines_of(1), drop(24), drop(HIGHEST), drop(23), drop(23))
        self.assertEqual(told[:1] + told[25:], [[-2], [-2], [-2], [0], [-2]])

    def test_a_refusal_leaves_all(self):
        told = ask(line(0, 1, 5), drop(1), drop(24), between(0, 1), line(0, 1, 2))
        self.assertEqual(told, [[0], [-2], [-2], [5, 1], [1]])


class Wide(unittest.TestCase):
    def test_more_and_less(self):
        told = ask(line(0, 1, 5), wide(0, 9), between(0, 1), wide(0, 2), between(0, 1))
        self.assertEqual(told, [[0], [0], [9, 1], [0], [2, 1]])

    def test_only_that_line_and_its_ends_stay(self):
        told = ask(line(6, 2, 5), line(2, 6, 10), line(3, 4, 6), wide(1, 100), between(2, 6), between(3, 4))
        self.assertEqual(told[3:], [[0], [105, 4], [6, 8]])

    def test_most_from_0_to_1000(self):
        told = ask(line(0, 1, 5), wide(0, 1000), between(0, 1), wide(0, 0), between(0, 1), line(0, 1, 3), drop(0))
        self.assertEqual(told[1:], [[0], [1000, 1], [0], [0, 1], [1], [0]])

    def test_most_above_1000_is_refused_and_leaves_all(self):
        for much in (1001, HIGHEST):
            with self.subTest(much=much):
                self.assertEqual(ask(line(0, 1, 5), wide(0, much), between(0, 1)), [[0], [-22], [5, 1]])

    def test_no_such_line(self):
        told = ask(wide(0, 1), line(0, 1, 5), wide(1, 1), drop(0), wide(0, 1), between(0, 1), line(0, 1, 2))
        self.assertEqual(told, [[-2], [0], [-2], [0], [-2], [0, 1], [0]])

    def test_number_23_and_24(self):
        told = ask(wide(23, 1), *lines_of(1), wide(23, 1000), wide(24, 1000), wide(HIGHEST, 0), between(0, 1))
        self.assertEqual(told[:1] + told[25:], [[-2], [0], [-2], [-2], [1023, 1]])

    def test_a_wrong_value_is_told_ahead_of_no_such_line(self):
        told = ask(wide(0, 1001), wide(24, 1001), wide(HIGHEST, HIGHEST), wide(24, 1000))
        self.assertEqual(told, [[-22], [-22], [-22], [-2]])


if __name__ == "__main__":
    unittest.main()
