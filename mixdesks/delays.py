"""When a sound comes to each node, and the waits that make all ways to a node equally long."""

from mixdesks.desk import IN, OUT
from mixdesks.routes import all_ways, sender_of, spread_onward


# Whether a node is fed, and when it comes to it (0 if it isn't fed), stand by the nodes' numbers.
class Timing:
    def __init__(self, desk):
        self.desk = desk
        self.fed = spread_onward(desk.sends, [kind == IN for kind in desk.kinds])
        self.comes = [0 for kind in desk.kinds]
        # A send goes to a later node, so by the senders' order all that comes to a sender has come.
        for told in sorted(desk.sends, key=sender_of):
            if self.fed[told.sender]:
                self.comes[told.target] = max(self.comes[told.target], self.goes(told.sender))

    # When node i gives what comes to it.
    def goes(self, i):
        return self.comes[i] + self.desk.late[i]


def wait_of(timing, told):
    if not timing.fed[told.sender]:
        return 0
    return timing.comes[told.target] - timing.goes(told.sender)


def whole_delay(timing):
    outs = [i for i, kind in enumerate(timing.desk.kinds) if kind == OUT and timing.fed[i]]
    return max([timing.goes(i) for i in outs], default=0)


def last_wait(timing, o):
    if not timing.fed[o]:
        return 0
    return whole_delay(timing) - timing.goes(o)


# How long a way is, its sends' waits counted.
def length_with_waits(timing, nodes):
    desk = timing.desk
    sends = [desk.send_between(sender, target) for sender, target in zip(nodes, nodes[1:])]
    return length_without_waits(desk, nodes) + sum([wait_of(timing, told) for told in sends])


def length_without_waits(desk, nodes):
    return sum([desk.late[i] for i in nodes[:-1]])


# All ways from ins to x that are as long as it takes to come to x, in order; of a fed node there's at least one.
def slow_ways(timing, x):
    desk = timing.desk
    found = []
    for i, kind in enumerate(desk.kinds):
        if kind == IN:
            found.extend(all_ways(desk, i, x))
    return [nodes for nodes in found if length_without_waits(desk, nodes) == timing.comes[x]]
