"""What all tests use: calls by their names, the answers taken apart, and nets worked out without the program."""

from treeofcuts.desk import answers

HIGHEST = 4294967295
LINES_AT_MOST = 24
PAIRS = [(a, b) for a in range(8) for b in range(8) if a != b]
START = [0]
TREE = [5]
WEAKEST = [8]


def line(a, b, most):
    return [1, a, b, most]


def drop(number):
    return [2, number]


def wide(number, most):
    return [3, number, most]


def between(a, b):
    return [4, a, b]


def told(a, b):
    return [6, a, b]


def edge(side):
    return [7, side]


def taken_apart(flat):
    """The flat list that is given back, as one list for each call."""
    apart = []
    at = 0
    while at < len(flat):
        behind = at + 1 + flat[at]
        assert at < behind - 1 < len(flat), "a count of the answers doesn't fit"
        apart.append(flat[at + 1:behind])
        at = behind
    return apart


def ask(*calls):
    """Hand in a tr_start and the calls, in one list; what each of the calls is answered."""
    listed = START + [number for call in calls for number in call]
    apart = taken_apart(answers(listed))
    assert len(apart) == len(calls) + 1, "not one answer for each call"
    assert apart[0] == [0], "tr_start is refused"
    return apart[1:]


def ask_of(lines, *calls):
    """What the calls are answered when these lines have come ahead of them."""
    return ask(*[line(*one) for one in lines], *calls)[len(lines):]


def lines_of(most):
    """As many lines as there can be, all between 0 and 1, each of so much."""
    return [line(0, 1, most) for _ in range(LINES_AT_MOST)]


def ring_of(most):
    """As many lines as there can be: three from each place to the next one round."""
    return [(place, (place + 1) % 8, most) for place in range(8) for _ in range(3)]


def numbers_from(seed):
    """One number after another without end, the same ones for the same seed."""
    while True:
        seed = (seed * 1103515245 + 12345) % 2 ** 31
        yield seed // 2 ** 12


def made_up(seed, count, places, most):
    """So many lines between the first places; the same for the same seed."""
    numbers = numbers_from(seed)
    lines = []
    while len(lines) < count:
        a, b, much = next(numbers) % places, next(numbers) % places, next(numbers) % (most + 1)
        if a != b:
            lines.append((a, b, much))
    return lines


def nets():
    """Forty nets, of 0 to 24 lines between 3 to 8 places, many of them with equal edges."""
    return [made_up(seed, seed * 7 % 25, 3 + seed % 6, (2, 7, 1000)[seed % 3]) for seed in range(40)]


def joined(lines):
    """What goes straight from each place to each other, as rows."""
    straight = [[0] * 8 for _ in range(8)]
    for a, b, most in lines:
        straight[a][b] += most
        straight[b][a] += most
    return straight


def shipped(lines, a, b):
    """The most that goes from a to b, sent way by way with no thought of sides.

    Answered are rows, what goes from each place straight to each other (below 0: comes from there), and the
    places to which a way from a is left then.
    """
    left = joined(lines)
    while True:
        came_from = {a: a}
        waiting = [a]
        for here in waiting:
            for there in range(8):
                if left[here][there] > 0 and there not in came_from:
                    came_from[there] = here
                    waiting.append(there)
        if b not in came_from:
            break
        way = [b]
        while way[-1] != a:
            way.append(came_from[way[-1]])
        way.reverse()
        steps = list(zip(way, way[1:]))
        much = min(left[here][there] for here, there in steps)
        for here, there in steps:
            left[here][there] -= much
            left[there][here] += much
    straight = joined(lines)
    return [[straight[here][there] - left[here][there] for there in range(8)] for here in range(8)], set(came_from)


def flow(lines, a, b):
    """How much goes from a to b at most, and the cut of a from b.

    The places to which a way from a is left lie in each side that has the least edge, so theirs is the least number.
    """
    moved, reached = shipped(lines, a, b)
    return sum(moved[a]), reached


def members_of(side):
    return {place for place in range(8) if side // 2 ** place % 2 == 1}


def number_of(members):
    return sum(2 ** place for place in members)


def crossing(lines, members):
    """The edge of these places, pair by pair."""
    straight = joined(lines)
    return sum(straight[a][b] for a in members for b in range(8) if b not in members)


def tree_by_flow(lines):
    """The sixteen numbers of tr_tree, by the document's words, with flows in the place of sides."""
    hangs, weights = [0] * 8, [0] * 8
    for s in range(1, 8):
        p = hangs[s]
        weights[s], cut = flow(lines, s, p)
        for behind in sorted(cut):
            if behind > s and hangs[behind] == p:
                hangs[behind] = s
    return hangs + weights


def weakest_by_flow(lines):
    """What tr_weakest is to answer: of what parts any two places the least, and of these cuts the least number."""
    parted = [flow(lines, a, b) for a, b in PAIRS]
    return list(min((sent, number_of(cut)) for sent, cut in parted))


def least_step(sixteen, a, b):
    """The least weight on the way from a to b, looked for from a along all steps, down and up."""
    least = {a: None}
    waiting = [a]
    for here in waiting:
        for place in range(1, 8):
            ends = {place, sixteen[place]}
            if here in ends:
                there = (ends - {here}).pop()
                if there not in least:
                    weight = sixteen[8 + place]
                    least[there] = weight if here == a else min(least[here], weight)
                    waiting.append(there)
    return least[b]
