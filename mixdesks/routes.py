"""The ways from one node to another."""


# All ways from start to end, in order. A desk's bounds let there be few enough to list them.
def all_ways(desk, start, end):
    found = [[] for kind in desk.kinds]
    found[end].append([end])
    # A send goes to a later node, so from behind the ways of all that a node sends to are there already.
    for i in range(end - 1, start - 1, -1):
        for target in desk.targets_of(i):
            found[i].extend([[i] + rest for rest in found[target]])
    return found[start]
