"""What several calls refuse in the same way; a call makes its checks in the order in which it tells its refusals."""

from mixdesks.desk import BUS, IN, OUT
from mixdesks.refusals import Missing, Unfit, WrongCount
from mixdesks.samples import MOST_GAIN
from mixdesks.switches import MOST_SWITCH


def check_node(desk, i):
    if i >= len(desk.kinds):
        raise Missing()


# A node that there isn't passes: that is another refusal, which some calls tell later than this one.
def check_kind(desk, i, kinds):
    if i < len(desk.kinds) and desk.kinds[i] not in kinds:
        raise Unfit()


def check_sounding(desk, x):
    check_node(desk, x)
    check_kind(desk, x, (IN, BUS, OUT))


def check_send(desk, i):
    if i >= len(desk.sends):
        raise Missing()


def check_settings(desk, s, g):
    check_counts(desk, s, g)
    check_bounds(s, g)


def check_counts(desk, s, g):
    if len(s) != len(desk.kinds) or len(g) != len(desk.kinds):
        raise WrongCount()


def check_bounds(s, g):
    if any([switch > MOST_SWITCH for switch in s]) or any([fader > MOST_GAIN for fader in g]):
        raise Unfit()
