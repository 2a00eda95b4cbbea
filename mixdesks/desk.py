"""A desk as its text tells it: nodes of four kinds, and what is set of them."""

IN = 0
BUS = 1
OUT = 2
GROUP = 3


class Send:
    def __init__(self, sender, target, gain, pre):
        self.sender = sender
        self.target = target
        self.gain = gain
        self.pre = pre


# Kinds, names, safe and late stand by the nodes' numbers; a member is a pair of group and node.
class Desk:
    def __init__(self):
        self.kinds = []
        self.names = []
        self.safe = []
        self.late = []
        self.members = []
        self.sends = []

    def add_node(self, kind, spelled):
        self.kinds.append(kind)
        self.names.append(spelled)
        self.safe.append(0)
        self.late.append(0)

    # None if there is no such send.
    def send_between(self, sender, target):
        for told in self.sends:
            if told.sender == sender and told.target == target:
                return told
        return None

    # The nodes that node i sends to, the least number first.
    def targets_of(self, i):
        return sorted([told.target for told in self.sends if told.sender == i])

    # The groups that node i is a member of, the least number first.
    def groups_of(self, i):
        return sorted([pair[0] for pair in self.members if pair[1] == i])
