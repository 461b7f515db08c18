"""The desk: a list of calls comes in, the list of their answers goes out."""

from treeofcuts.network import Network

TR_START = 0
TR_LINE = 1
TR_DROP = 2
TR_WIDE = 3
TR_BETWEEN = 4
TR_TREE = 5
TR_TOLD = 6
TR_EDGE = 7

# How many whole numbers stand behind each call's own, by that.
GIVEN_COUNTS = (0, 3, 1, 2, 2, 0, 2, 1, 0)


def answer_of(network, number, given):
    """What the network answers to one call."""
    if number == TR_START:
        return network.start_anew()
    if number == TR_LINE:
        return network.add_line(given[0], given[1], given[2])
    if number == TR_DROP:
        return network.drop_line(given[0])
    if number == TR_WIDE:
        return network.widen_line(given[0], given[1])
    if number == TR_BETWEEN:
        return network.between(given[0], given[1])
    if number == TR_TREE:
        return network.whole_tree()
    if number == TR_TOLD:
        return network.told_between(given[0], given[1])
    if number == TR_EDGE:
        return network.edge(given[0])
    # Only tr_weakest, 8, is left: nothing that isn't a call is handed in.
    return network.weakest()


def answers(calls):
    """For each call, in order: how many numbers are answered, then these."""
    network = Network()
    told = []
    at = 0
    while at < len(calls):
        number = calls[at]
        behind = at + 1 + GIVEN_COUNTS[number]
        answer = answer_of(network, number, calls[at + 1:behind])
        told.append(len(answer))
        told.extend(answer)
        at = behind
    return told
