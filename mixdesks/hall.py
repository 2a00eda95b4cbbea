"""The calls: each reads its desk's text anew and gives back its answer as one list of whole numbers."""

from mixdesks.checks import check_kind, check_node
from mixdesks.desk import BUS, GROUP, IN, OUT
from mixdesks.reading import read_desk
from mixdesks.refusals import Missing, Refusal
from mixdesks.routes import all_ways


# How many ins, buses, outs, groups and sends the desk has.
def judge(t):
    try:
        return tell_counts(read_desk(t))
    except Refusal as e:
        return refused(e)


# The number of the node that is called so.
def find(t, called):
    try:
        return tell_number(read_desk(t), called)
    except Refusal as e:
        return refused(e)


# The name of node i.
def name(i, t):
    try:
        return tell_name(read_desk(t), i)
    except Refusal as e:
        return refused(e)


# Node i's kind, the how-manieth of its kind it is, whether it is safe, how late it is.
def node(i, t):
    try:
        return tell_node(read_desk(t), i)
    except Refusal as e:
        return refused(e)


# The i-th send: from, to, gain, whether it is pre.
def send(i, t):
    try:
        return tell_send(read_desk(t), i)
    except Refusal as e:
        return refused(e)


# Whether node i is a member of that group.
def member(group, i, t):
    try:
        return tell_member(read_desk(t), group, i)
    except Refusal as e:
        return refused(e)


# How many ways there are from a to b.
def ways(a, b, t):
    try:
        return tell_ways(read_desk(t), a, b)
    except Refusal as e:
        return refused(e)


# The nodes of the k-th way from a to b.
def way(a, b, k, t):
    try:
        return tell_way(read_desk(t), a, b, k)
    except Refusal as e:
        return refused(e)


def tell_counts(desk):
    counts = [desk.kinds.count(kind) for kind in (IN, BUS, OUT, GROUP)]
    return answer(0, [], counts + [len(desk.sends)])


def tell_number(desk, called):
    if called not in desk.names:
        raise Missing()
    return answer(desk.names.index(called), [], [])


def tell_name(desk, i):
    check_node(desk, i)
    letters = desk.names[i]
    return answer(len(letters), letters, [])


def tell_node(desk, i):
    check_node(desk, i)
    kind = desk.kinds[i]
    before = desk.kinds[:i].count(kind)
    return answer(0, [], [kind, before, desk.safe[i], desk.late[i]])


def tell_send(desk, i):
    if i >= len(desk.sends):
        raise Missing()
    told = desk.sends[i]
    return answer(0, [], [told.sender, told.target, told.gain, told.pre])


def tell_member(desk, group, i):
    check_kind(desk, group, (GROUP,))
    check_kind(desk, i, (IN, BUS, OUT))
    check_node(desk, group)
    check_node(desk, i)
    return answer(1 if (group, i) in desk.members else 0, [], [])


def tell_ways(desk, a, b):
    return answer(len(checked_ways(desk, a, b)), [], [])


def tell_way(desk, a, b, k):
    found = checked_ways(desk, a, b)
    if k >= len(found):
        raise Missing()
    return answer(len(found[k]), [], found[k])


def checked_ways(desk, a, b):
    check_kind(desk, a, (IN, BUS, OUT))
    check_kind(desk, b, (IN, BUS, OUT))
    check_node(desk, a)
    check_node(desk, b)
    return all_ways(desk, a, b)


def refused(refusal):
    return answer(refusal.number, [], refusal.told)


def answer(number, told_bytes, told_numbers):
    return [number, len(told_bytes)] + told_bytes + [len(told_numbers)] + told_numbers
