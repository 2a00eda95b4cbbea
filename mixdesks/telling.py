"""What each call tells of a desk that has been read, with its refusals in the order told at the call."""

from mixdesks.checks import check_bounds, check_counts, check_kind, check_node, check_send, check_settings
from mixdesks.checks import check_sounding
from mixdesks.delays import Timing, last_wait, length_with_waits, slow_ways, wait_of, whole_delay
from mixdesks.desk import BUS, GROUP, IN, OUT
from mixdesks.levels import extreme_levels, find_levels, is_heard
from mixdesks.refusals import Missing, Unfit, WrongCount
from mixdesks.routes import all_ways, is_way
from mixdesks.samples import held
from mixdesks.switches import LIVE, Setup, whole_gain, why_silent


def tell_counts(desk):
    counts = [desk.kinds.count(kind) for kind in (IN, BUS, OUT, GROUP)]
    return answer(0, [], counts + [len(desk.sends)])


def tell_number(desk, called):
    if called not in desk.names:
        raise Missing()
    return answer(desk.names.index(called), [], [])


def tell_name(desk, i):
    check_node(desk, i)
    letters = desk.names[i]
    return answer(len(letters), letters, [])


def tell_node(desk, i):
    check_node(desk, i)
    kind = desk.kinds[i]
    before = desk.kinds[:i].count(kind)
    return answer(0, [], [kind, before, desk.safe[i], desk.late[i]])


def tell_send(desk, i):
    check_send(desk, i)
    told = desk.sends[i]
    return answer(0, [], [told.sender, told.target, told.gain, told.pre])


def tell_member(desk, group, i):
    check_kind(desk, group, (GROUP,))
    check_kind(desk, i, (IN, BUS, OUT))
    check_node(desk, group)
    check_node(desk, i)
    return answer(1 if (group, i) in desk.members else 0, [], [])


def tell_ways(desk, a, b):
    return answer(len(checked_ways(desk, a, b)), [], [])


def tell_way(desk, a, b, k):
    found = checked_ways(desk, a, b)
    if k >= len(found):
        raise Missing()
    return answer(len(found[k]), [], found[k])


def checked_ways(desk, a, b):
    check_kind(desk, a, (IN, BUS, OUT))
    check_kind(desk, b, (IN, BUS, OUT))
    check_node(desk, a)
    check_node(desk, b)
    return all_ways(desk, a, b)


def tell_live(desk, s, g, x):
    check_settings(desk, s, g)
    check_sounding(desk, x)
    why = why_silent(desk, s, x)
    return answer(1 if why[0] == LIVE else 0, [], why)


def tell_gain(desk, s, g, x):
    check_settings(desk, s, g)
    check_sounding(desk, x)
    return answer(whole_gain(desk, g, x), [], [])


def tell_heard(desk, s, g, a, o):
    check_settings(desk, s, g)
    check_kind(desk, a, (IN,))
    check_kind(desk, o, (OUT,))
    check_node(desk, a)
    check_node(desk, o)
    return answer(1 if is_heard(Setup(desk, s, g), a, o) else 0, [], [])


def tell_mix(desk, s, g, ins):
    check_counts(desk, s, g)
    if len(ins) != desk.kinds.count(IN):
        raise WrongCount()
    check_bounds(s, g)
    levels = find_levels(Setup(desk, s, g), [held(sample) for sample in ins])
    both = [held(level) for level in levels.sums + levels.given]
    return answer(len(desk.kinds), [], both)


def tell_loud(desk, s, g, x):
    check_settings(desk, s, g)
    check_sounding(desk, x)
    four = extreme_levels(Setup(desk, s, g), x)
    clips = any([held(level) != level for level in four])
    return answer(1 if clips else 0, [], four)


def tell_whole(desk):
    return answer(whole_delay(Timing(desk)), [], [])


def tell_comes(desk, x):
    return answer(checked_timing(desk, x).comes[x], [], [])


def checked_timing(desk, x):
    check_sounding(desk, x)
    timing = Timing(desk)
    if not timing.fed[x]:
        raise Missing()
    return timing


def tell_wait(desk, i):
    check_send(desk, i)
    return answer(wait_of(Timing(desk), desk.sends[i]), [], [])


def tell_last(desk, o):
    check_node(desk, o)
    check_kind(desk, o, (OUT,))
    return answer(last_wait(Timing(desk), o), [], [])


def tell_long(desk, nodes):
    if not is_way(desk, nodes):
        raise Unfit()
    return answer(length_with_waits(Timing(desk), nodes), [], [])


def tell_slow(desk, x):
    nodes = slow_ways(checked_timing(desk, x), x)[0]
    return answer(len(nodes), [], nodes)


def answer(number, told_bytes, told_numbers):
    return [number, len(told_bytes)] + told_bytes + [len(told_numbers)] + told_numbers
