"""The interface: how calls stand in the list, how answers stand, and what is left as it was."""

import inspect
import io
import unittest
from contextlib import redirect_stderr, redirect_stdout

from asking import HIGHEST
from treeofcuts import desk

CALLS = [0, 1, 0, 1, 5, 1, 1, 2, 3, 4, 0, 2, 2, 7, 3, 0, 1001, 2, 0, 0, 1, 7, 6, 1000, 4, 6, 7, 4, 0, 8]
TOLD = [1, 0, 1, 0, 1, 1, 2, 3, 3, 1, -2, 1, -22, 1, 0, 1, 0, 1, 0, 2, 1000, 64, 1, -22]


class Answers(unittest.TestCase):
    def test_takes_one_list_called_calls(self):
        self.assertEqual(list(inspect.signature(desk.answers).parameters), ["calls"])
        self.assertEqual(desk.answers(calls=[0]), [1, 0])

    def test_every_call_stands_by_its_number(self):
        self.assertEqual(desk.answers([0]), [1, 0])
        self.assertEqual(desk.answers([0, 1, 4, 5, 6]), [1, 0, 1, 0])
        self.assertEqual(desk.answers([0, 2, 4]), [1, 0, 1, -2])
        self.assertEqual(desk.answers([0, 3, 4, 5]), [1, 0, 1, -2])
        self.assertEqual(desk.answers([0, 4, 5, 6]), [1, 0, 2, 0, 32])

    def test_several_calls_in_one_list(self):
        self.assertEqual(desk.answers(list(CALLS)), TOLD)

    def test_a_refusal_is_one_number(self):
        self.assertEqual(desk.answers([0, 4, 0, 0, 4, 0, 1]), [1, 0, 1, -22, 2, 0, 1])

    def test_the_highest_numbers(self):
        calls = [0, 1, HIGHEST, HIGHEST, HIGHEST, 2, HIGHEST, 3, HIGHEST, HIGHEST, 3, HIGHEST, 0, 4, HIGHEST, HIGHEST]
        self.assertEqual(desk.answers(calls), [1, 0, 1, -22, 1, -2, 1, -22, 1, -2, 1, -22])

    # Lists this long are not shown when they differ: telling how they do would take minutes.
    def test_1000_calls_in_one_list(self):
        calls = [0] + [1, 0, 1, 1000] * 24 + [4, 0, 1] * 975
        wanted = [1, 0] + [number for k in range(24) for number in (1, k)] + [2, 24000, 1] * 975
        self.assertTrue(desk.answers(calls) == wanted)

    def test_1000_starts_in_one_list(self):
        self.assertTrue(desk.answers([0] * 1000) == [1, 0] * 1000)

    def test_whole_numbers_in_a_list(self):
        told = desk.answers(list(CALLS))
        self.assertIs(type(told), list)
        self.assertEqual({type(number) for number in told}, {int})


class LeftAsItWas(unittest.TestCase):
    def test_what_is_handed_in_is_not_changed(self):
        class Kept(list):
            def refuse(self, *given, **named):
                raise AssertionError("the list that is handed in is changed")

            append = clear = extend = insert = pop = remove = reverse = sort = refuse
            __setitem__ = __delitem__ = __iadd__ = __imul__ = refuse

        calls = Kept(CALLS)
        self.assertEqual(desk.answers(calls), TOLD)
        self.assertEqual(list(calls), CALLS)

    def test_the_same_list_again_is_answered_the_same(self):
        calls = list(CALLS)
        first = desk.answers(calls)
        first_copy = list(first)
        desk.answers([0, 1, 0, 1, 9, 1, 2, 3, 9])
        self.assertEqual(desk.answers(calls), first_copy)
        self.assertEqual(first, first_copy)

    def test_what_was_given_back_may_be_changed(self):
        desk.answers(list(CALLS)).clear()
        self.assertEqual(desk.answers(list(CALLS)), TOLD)

    def test_nothing_is_printed(self):
        out, err = io.StringIO(), io.StringIO()
        with redirect_stdout(out), redirect_stderr(err):
            desk.answers(list(CALLS))
        self.assertEqual((out.getvalue(), err.getvalue()), ("", ""))


if __name__ == "__main__":
    unittest.main()
