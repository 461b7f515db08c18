"""The whole document: all nine calls one after another, beside a second telling that knows no sides."""

import unittest

from asking import (
    HIGHEST, LINES_AT_MOST, START, TREE, WEAKEST, ask, between, crossing, drop, edge, flow, line, lines_of, made_up,
    members_of, number_of, numbers_from, ring_of, told, tree_by_flow, weakest_by_flow, wide,
)


class SecondTelling:
    """What the document promises of each call, worked out with flows over a row of 24 boxes."""

    def __init__(self):
        self.boxes = [None] * LINES_AT_MOST

    def lines(self):
        return [box for box in self.boxes if box is not None]

    def answer(self, call):
        """What is told of the call, a list that begins with its number."""
        number, *given = call
        return (
            self.start, self.line, self.drop, self.wide, self.between, self.tree, self.told, self.edge, self.weakest,
        )[number](*given)

    def start(self):
        self.boxes = [None] * LINES_AT_MOST
        return [0]

    def line(self, a, b, most):
        if not set((a, b)) <= set(range(8)) or a == b or not 0 <= most <= 1000:
            return [-22]
        if None not in self.boxes:
            return [-28]
        free = self.boxes.index(None)
        self.boxes[free] = (a, b, most)
        return [free]

    def drop(self, number):
        if number not in range(LINES_AT_MOST) or self.boxes[number] is None:
            return [-2]
        self.boxes[number] = None
        return [0]

    def wide(self, number, most):
        if not 0 <= most <= 1000:
            return [-22]
        if number not in range(LINES_AT_MOST) or self.boxes[number] is None:
            return [-2]
        self.boxes[number] = self.boxes[number][:2] + (most,)
        return [0]

    def between(self, a, b):
        if not set((a, b)) <= set(range(8)) or a == b:
            return [-22]
        sent, cut = flow(self.lines(), a, b)
        return [sent, number_of(cut)]

    def tree(self):
        return [0] + tree_by_flow(self.lines())

    def told(self, a, b):
        return self.between(a, b)[:1]

    def edge(self, side):
        return [-22] if side > 255 else [crossing(self.lines(), members_of(side))]

    def weakest(self):
        return weakest_by_flow(self.lines())


def made_up_calls(seed, count):
    """So many calls behind 0 to 24 lines, some with values that are refused; a tr_start now and then."""
    numbers = numbers_from(seed)

    def below(end):
        return next(numbers) % end

    def odd(right, *wrong):
        """Mostly a right value below so much; now and then a wrong one."""
        return wrong[below(len(wrong))] if below(12) == 0 else below(right)

    def place():
        return odd((3, 8)[seed % 2], 8, 7, HIGHEST)

    def most():
        return odd((3, 1001)[seed // 2 % 2], 1000, 1001, HIGHEST)

    def number():
        return odd(8, 22, 23, 24, HIGHEST)

    calls = [line(*one) for one in made_up(seed, seed % 4 * 8, 8, 1000)]
    for _ in range(count):
        sort = below(40)
        if sort < 1:
            calls.append(START)
        elif sort < 14:
            calls.append(line(place(), place(), most()))
        elif sort < 17:
            calls.append(drop(number()))
        elif sort < 20:
            calls.append(wide(number(), most()))
        elif sort < 24:
            calls.append(between(place(), place()))
        elif sort < 28:
            calls.append(TREE)
        elif sort < 33:
            calls.append(told(place(), place()))
        elif sort < 38:
            calls.append(edge(odd(256, 0, 255, 256, HIGHEST)))
        else:
            calls.append(WEAKEST)
    return calls


class AllNine(unittest.TestCase):
    def test_calls_one_after_another(self):
        for seed in range(40):
            calls = made_up_calls(seed, 60)
            second = SecondTelling()
            wanted = [second.answer(call) for call in calls]
            with self.subTest(seed=seed):
                self.assertEqual(ask(*calls), wanted)

    def test_what_is_made_up_has_all_calls_and_all_refusals(self):
        seen = {(call[0], min(answer[0], 0)) for seed in range(40)
                for calls in [made_up_calls(seed, 60)] for call, answer in zip(calls, ask(*calls))}
        self.assertEqual(seen, {(sort, 0) for sort in range(9)} | {
            (1, -22), (1, -28), (2, -2), (3, -22), (3, -2), (4, -22), (6, -22), (7, -22),
        })


class NothingIsChanged(unittest.TestCase):
    def test_by_the_calls_that_only_ask(self):
        asking = [TREE, told(0, 7), told(8, 0), told(5, 5), edge(0), edge(37), edge(256), WEAKEST, between(1, 6)]
        for seed in range(20):
            calls = made_up_calls(seed, 30)
            alone = ask(*calls)
            amid = ask(*[one for call in calls for one in [*asking, call]])
            with self.subTest(seed=seed):
                self.assertEqual(amid[len(asking)::len(asking) + 1], alone)

    def test_when_asked_twice(self):
        for lines in (made_up(5, 24, 8, 1000), made_up(6, 12, 5, 3), ring_of(1000)):
            asking = [TREE, told(0, 7), told(3, 1), edge(37), WEAKEST, between(1, 6)]
            got = ask(*[line(*one) for one in lines], *asking, *asking)[len(lines):]
            self.assertEqual(got[:6], got[6:])

    def test_by_refusals(self):
        refused = [
            line(8, 0, 1), line(0, HIGHEST, 1), line(2, 2, 1), line(0, 1, 1001), line(0, 1, 1), drop(24), wide(0, 1001),
            wide(24, 1), between(8, 0), between(4, 4), told(8, 0), told(0, 8), told(4, 4), edge(256), edge(HIGHEST),
        ]
        asking = [TREE, told(0, 5), edge(37), WEAKEST, between(1, 6)]
        lines = [line(*one) for one in made_up(9, 24, 8, 1000)]
        got = ask(*lines, *asking, *refused, *asking, drop(7), line(0, 1, 0))[24:]
        self.assertEqual(got[5:20], [[-22]] * 4 + [[-28], [-2], [-22], [-2]] + [[-22]] * 7)
        self.assertEqual(got[:5], got[20:25])
        self.assertEqual(got[25:], [[0], [7]])


class LongLists(unittest.TestCase):
    # Answers this long are not shown when they differ: telling how they do would take minutes.
    def test_999_trees(self):
        self.assertTrue(ask(*[TREE] * 999) == [[0] * 17] * 999)
        ring = [line(*one) for one in ring_of(1000)]
        self.assertTrue(ask(*ring, *[TREE] * 975)[24:] == [[0] * 10 + [6000] * 7] * 975)

    def test_999_times_told(self):
        self.assertTrue(ask(*[told(7, 0)] * 999) == [[0]] * 999)
        self.assertTrue(ask(*lines_of(1000), *[told(0, 1)] * 975)[24:] == [[24000]] * 975)

    def test_trees_and_what_is_told_by_turns(self):
        got = ask(line(0, 7, 5), *[TREE, told(7, 0)] * 499)[1:]
        self.assertTrue(got == [[0] * 16 + [5], [5]] * 499)

    def test_999_edges_and_weakest_sides(self):
        self.assertTrue(ask(*[edge(255)] * 999) == [[0]] * 999)
        self.assertTrue(ask(*[WEAKEST] * 999) == [[0, 1]] * 999)


if __name__ == "__main__":
    unittest.main()
