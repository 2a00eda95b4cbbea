"""The ways from one node to another."""

from mixdesks.desk import GROUP


# All ways from start to end, in order. A desk's bounds let there be few enough to list them.
def all_ways(desk, start, end):
    found = [[] for kind in desk.kinds]
    found[end].append([end])
    # A send goes to a later node, so from behind the ways of all that a node sends to are there already.
    for i in range(end - 1, start - 1, -1):
        for target in desk.targets_of(i):
            found[i].extend([[i] + rest for rest in found[target]])
    return found[start]


# The numbers may be any, of nodes that there aren't too.
def is_way(desk, nodes):
    if len(nodes) == 0:
        return False
    for i in nodes:
        if i >= len(desk.kinds) or desk.kinds[i] == GROUP:
            return False
    return all([desk.send_between(sender, target) is not None for sender, target in zip(nodes, nodes[1:])])


# Marks stand by the nodes' numbers. A send goes to a later node, so by the senders' order (or the other way
# round) a mark has come to a node before it is to go on from there.
def spread_onward(sends, begun):
    marks = list(begun)
    for told in sorted(sends, key=sender_of):
        if marks[told.sender]:
            marks[told.target] = True
    return marks


def spread_back(sends, begun):
    marks = list(begun)
    for told in sorted(sends, key=sender_of, reverse=True):
        if marks[told.target]:
            marks[told.sender] = True
    return marks


def sender_of(told):
    return told.sender
