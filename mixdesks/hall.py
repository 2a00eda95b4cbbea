"""The calls: each reads its desk's text anew and gives back its answer as one list of whole numbers."""

from mixdesks.desk import BUS, GROUP, IN, OUT
from mixdesks.reading import read_desk
from mixdesks.refusals import Missing, Refusal


# How many ins, buses, outs, groups and sends the desk has.
def judge(t):
    try:
        return tell_counts(read_desk(t))
    except Refusal as e:
        return refused(e)


# The number of the node that is called so.
def find(t, called):
    try:
        return tell_number(read_desk(t), called)
    except Refusal as e:
        return refused(e)


# The name of node i.
def name(i, t):
    try:
        return tell_name(read_desk(t), i)
    except Refusal as e:
        return refused(e)


# Node i's kind, the how-manieth of its kind it is, whether it is safe, how late it is.
def node(i, t):
    try:
        return tell_node(read_desk(t), i)
    except Refusal as e:
        return refused(e)


def tell_counts(desk):
    counts = [desk.kinds.count(kind) for kind in (IN, BUS, OUT, GROUP)]
    return answer(0, [], counts + [len(desk.sends)])


def tell_number(desk, called):
    if called not in desk.names:
        raise Missing()
    return answer(desk.names.index(called), [], [])


def tell_name(desk, i):
    check_node(desk, i)
    letters = desk.names[i]
    return answer(len(letters), letters, [])


def tell_node(desk, i):
    check_node(desk, i)
    kind = desk.kinds[i]
    before = desk.kinds[:i].count(kind)
    return answer(0, [], [kind, before, desk.safe[i], desk.late[i]])


def check_node(desk, i):
    if i >= len(desk.kinds):
        raise Missing()


def refused(refusal):
    return answer(refusal.number, [], refusal.told)


def answer(number, told_bytes, told_numbers):
    return [number, len(told_bytes)] + told_bytes + [len(told_numbers)] + told_numbers
