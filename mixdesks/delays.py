"""When a sound comes to each node, and the waits that make all ways to a node equally long."""

from mixdesks.desk import IN, OUT
from mixdesks.routes import sender_of, spread_onward


# Whether a node is fed, and when it comes to it (0 if it isn't fed), stand by the nodes' numbers.
class Timing:
    def __init__(self, desk):
        self.desk = desk
        self.fed = spread_onward(desk.sends, [kind == IN for kind in desk.kinds])
        self.comes = [0 for kind in desk.kinds]
        # A send goes to a later node, so by the senders' order all that comes to a sender has come.
        for told in sorted(desk.sends, key=sender_of):
            if self.fed[told.sender]:
                self.comes[told.target] = max(self.comes[told.target], self.goes(told.sender))

    # When node i gives what comes to it.
    def goes(self, i):
        return self.comes[i] + self.desk.late[i]


def wait_of(timing, told):
    if not timing.fed[told.sender]:
        return 0
    return timing.comes[told.target] - timing.goes(told.sender)


def whole_delay(timing):
    outs = [i for i, kind in enumerate(timing.desk.kinds) if kind == OUT and timing.fed[i]]
    return max([timing.goes(i) for i in outs], default=0)
