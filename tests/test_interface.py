"""The interface: how calls stand in the list, how answers stand, and what is left as it was."""

import inspect
import io
import unittest
from contextlib import redirect_stderr, redirect_stdout

from asking import HIGHEST
from treeofcuts import desk

# All nine calls, each of those that can be refused once answered and once refused.
CALLS = [
    0, 1, 0, 1, 5, 1, 1, 2, 3, 1, 8, 0, 1, 4, 0, 2, 5, 6, 2, 0, 7, 3, 8, 3, 1, 9, 2, 0, 2, 7, 5, 3, 0, 1001,
    0, 1, 7, 6, 1000, 8, 4, 6, 7, 6, 6, 7, 7, 64, 4, 0, 8, 6, 3, 3, 7, 256, 5,
]
TOLD = [
    1, 0, 1, 0, 1, 1, 1, -22, 2, 3, 3, 17, 0, 0, 0, 1, 0, 0, 0, 0, 0, 0, 5, 3, 0, 0, 0, 0, 0, 1, 3, 1, 3, 2, 0, 7,
    1, 0, 1, 0, 1, -2, 17, 0, 0, 0, 1, 0, 0, 0, 0, 0, 0, 0, 9, 0, 0, 0, 0, 0, 1, -22,
    1, 0, 1, 0, 2, 0, 1, 2, 1000, 64, 1, 1000, 1, 1000, 1, -22, 1, -22, 1, -22,
    17, 0, 0, 0, 0, 0, 0, 0, 0, 6, 0, 0, 0, 0, 0, 0, 0, 1000,
]


class Answers(unittest.TestCase):
    def test_takes_one_list_called_calls(self):
        self.assertEqual(list(inspect.signature(desk.answers).parameters), ["calls"])
        self.assertEqual(desk.answers(calls=[0]), [1, 0])

    def test_every_call_stands_by_its_number(self):
        self.assertEqual(desk.answers([0]), [1, 0])
        self.assertEqual(desk.answers([0, 1, 4, 5, 6]), [1, 0, 1, 0])
        self.assertEqual(desk.answers([0, 2, 4]), [1, 0, 1, -2])
        self.assertEqual(desk.answers([0, 3, 4, 5]), [1, 0, 1, -2])
        self.assertEqual(desk.answers([0, 4, 5, 6]), [1, 0, 2, 0, 32])
        self.assertEqual(desk.answers([0, 5]), [1, 0, 17] + [0] * 17)
        self.assertEqual(desk.answers([0, 6, 5, 6]), [1, 0, 1, 0])
        self.assertEqual(desk.answers([0, 7, 5]), [1, 0, 1, 0])
        self.assertEqual(desk.answers([0, 8]), [1, 0, 2, 0, 1])

    def test_several_calls_in_one_list(self):
        self.assertEqual(desk.answers(list(CALLS)), TOLD)

    def test_a_refusal_is_one_number(self):
        self.assertEqual(desk.answers([0, 4, 0, 0, 4, 0, 1]), [1, 0, 1, -22, 2, 0, 1])
        self.assertEqual(desk.answers([0, 6, 0, 0, 7, 256, 6, 0, 1]), [1, 0, 1, -22, 1, -22, 1, 0])

    def test_the_highest_numbers(self):
        calls = [0, 1, HIGHEST, HIGHEST, HIGHEST, 2, HIGHEST, 3, HIGHEST, HIGHEST, 3, HIGHEST, 0, 4, HIGHEST, HIGHEST]
        self.assertEqual(desk.answers(calls), [1, 0, 1, -22, 1, -2, 1, -22, 1, -2, 1, -22])
        calls = [0, 6, HIGHEST, HIGHEST, 6, HIGHEST, 7, 6, 0, HIGHEST, 7, HIGHEST]
        self.assertEqual(desk.answers(calls), [1, 0, 1, -22, 1, -22, 1, -22, 1, -22])

    # Lists this long are not shown when they differ: telling how they do would take minutes.
    def test_1000_calls_in_one_list(self):
        calls = [0] + [1, 0, 1, 1000] * 24 + [4, 0, 1] * 975
        wanted = [1, 0] + [number for k in range(24) for number in (1, k)] + [2, 24000, 1] * 975
        self.assertTrue(desk.answers(calls) == wanted)

    def test_1000_starts_in_one_list(self):
        self.assertTrue(desk.answers([0] * 1000) == [1, 0] * 1000)

    def test_whole_numbers_in_a_list(self):
        told = desk.answers(list(CALLS))
        self.assertIs(type(told), list)
        self.assertEqual({type(number) for number in told}, {int})


class LeftAsItWas(unittest.TestCase):
    def test_what_is_handed_in_is_not_changed(self):
        class Kept(list):
            def refuse(self, *given, **named):
                raise AssertionError("the list that is handed in is changed")

            append = clear = extend = insert = pop = remove = reverse = sort = refuse
            __setitem__ = __delitem__ = __iadd__ = __imul__ = refuse

        calls = Kept(CALLS)
        self.assertEqual(desk.answers(calls), TOLD)
        self.assertEqual(list(calls), CALLS)

    def test_the_same_list_again_is_answered_the_same(self):
        calls = list(CALLS)
        first = desk.answers(calls)
        first_copy = list(first)
        desk.answers([0, 1, 0, 1, 9, 1, 2, 3, 9])
        self.assertEqual(desk.answers(calls), first_copy)
        self.assertEqual(first, first_copy)

    def test_what_was_given_back_may_be_changed(self):
        desk.answers(list(CALLS)).clear()
        self.assertEqual(desk.answers(list(CALLS)), TOLD)

    def test_nothing_is_printed(self):
        out, err = io.StringIO(), io.StringIO()
        with redirect_stdout(out), redirect_stderr(err):
            desk.answers(list(CALLS))
        self.assertEqual((out.getvalue(), err.getvalue()), ("", ""))


if __name__ == "__main__":
    unittest.main()
