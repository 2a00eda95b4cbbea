"""What switches and faders make of a desk's nodes: which are live, and their whole gains."""

from mixdesks.desk import GROUP
from mixdesks.routes import spread_back, spread_onward
from mixdesks.samples import MOST_GAIN, rounded

MUTE = 1
SOLO = 2
MOST_SWITCH = 3

LIVE = 0
MUTED_ITSELF = 1
MUTED_BY_GROUP = 2
OTHERS_SOLOED = 3


# Which nodes are live and their whole gains stand by the nodes' numbers; no group is live.
class Setup:
    def __init__(self, desk, s, g):
        self.desk = desk
        self.live = live_nodes(desk, s)
        self.gains = [whole_gain(desk, g, i) for i in range(len(desk.kinds))]


def live_nodes(desk, s):
    solos = [kind != GROUP and is_switched(desk, s, i, SOLO) for i, kind in enumerate(desk.kinds)]
    # A soloed node is among both of these: there's a way from it to itself.
    behind = spread_onward(desk.sends, solos)
    ahead = spread_back(desk.sends, solos)
    marks = []
    for i, kind in enumerate(desk.kinds):
        let_through = not any(solos) or desk.safe[i] == 1 or behind[i] or ahead[i]
        marks.append(kind != GROUP and let_through and not is_switched(desk, s, i, MUTE))
    return marks


# Whether a node's own switch has that bit, or that of a group it is a member of.
def is_switched(desk, s, i, bit):
    return has_bit(s[i], bit) or any([has_bit(s[group], bit) for group in desk.groups_of(i)])


def has_bit(switch, bit):
    return (switch & bit) != 0


# Why node x isn't live, and the group that mutes it, or 0.
def why_silent(desk, s, x):
    if live_nodes(desk, s)[x]:
        return [LIVE, 0]
    if has_bit(s[x], MUTE):
        return [MUTED_ITSELF, 0]
    for group in desk.groups_of(x):
        if has_bit(s[group], MUTE):
            return [MUTED_BY_GROUP, group]
    return [OTHERS_SOLOED, 0]


def whole_gain(desk, g, x):
    gain = g[x]
    for group in desk.groups_of(x):
        gain = min(MOST_GAIN, rounded(gain * g[group]))
    return gain
