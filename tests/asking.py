"""What all tests use: calls by their names, and the answers, taken apart call by call."""

from treeofcuts.desk import answers

HIGHEST = 4294967295
LINES_AT_MOST = 24
START = [0]


def line(a, b, most):
    return [1, a, b, most]


def drop(number):
    return [2, number]


def wide(number, most):
    return [3, number, most]


def between(a, b):
    return [4, a, b]


def taken_apart(told):
    """The flat list that is given back, as one list for each call."""
    apart = []
    at = 0
    while at < len(told):
        behind = at + 1 + told[at]
        assert at < behind - 1 < len(told), "a count of the answers doesn't fit"
        apart.append(told[at + 1:behind])
        at = behind
    return apart


def ask(*calls):
    """Hand in a tr_start and the calls, in one list; what each of the calls is answered."""
    listed = START + [number for call in calls for number in call]
    apart = taken_apart(answers(listed))
    assert len(apart) == len(calls) + 1, "not one answer for each call"
    assert apart[0] == [0], "tr_start is refused"
    return apart[1:]


def lines_of(most):
    """As many lines as there can be, all between 0 and 1, each of so much."""
    return [line(0, 1, most) for _ in range(LINES_AT_MOST)]
