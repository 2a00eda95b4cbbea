"""The calls: each reads its desk's text anew and gives back its answer as one list of whole numbers."""

from mixdesks.reading import read_desk
from mixdesks.refusals import Refusal
from mixdesks.telling import answer, tell_counts, tell_member, tell_name, tell_node, tell_number, tell_send
from mixdesks.telling import tell_comes, tell_gain, tell_heard, tell_last, tell_live, tell_long, tell_loud, tell_mix
from mixdesks.telling import tell_slow, tell_wait, tell_way, tell_ways, tell_whole


# How many ins, buses, outs, groups and sends the desk has.
def judge(t):
    try:
        return tell_counts(read_desk(t))
    except Refusal as e:
        return refused(e)


# The number of the node that is called so.
def find(t, called):
    try:
        return tell_number(read_desk(t), called)
    except Refusal as e:
        return refused(e)


# The name of node i.
def name(i, t):
    try:
        return tell_name(read_desk(t), i)
    except Refusal as e:
        return refused(e)


# Node i's kind, the how-manieth of its kind it is, whether it is safe, how late it is.
def node(i, t):
    try:
        return tell_node(read_desk(t), i)
    except Refusal as e:
        return refused(e)


# The i-th send: from, to, gain, whether it is pre.
def send(i, t):
    try:
        return tell_send(read_desk(t), i)
    except Refusal as e:
        return refused(e)


# Whether node i is a member of that group.
def member(group, i, t):
    try:
        return tell_member(read_desk(t), group, i)
    except Refusal as e:
        return refused(e)


# How many ways there are from a to b.
def ways(a, b, t):
    try:
        return tell_ways(read_desk(t), a, b)
    except Refusal as e:
        return refused(e)


# The nodes of the k-th way from a to b.
def way(a, b, k, t):
    try:
        return tell_way(read_desk(t), a, b, k)
    except Refusal as e:
        return refused(e)


# Whether x is live; why it isn't, and by which group.
def live(x, t, s, g):
    try:
        return tell_live(read_desk(t), s, g, x)
    except Refusal as e:
        return refused(e)


# The whole gain of x.
def gain(x, t, s, g):
    try:
        return tell_gain(read_desk(t), s, g, x)
    except Refusal as e:
        return refused(e)


# Whether in a is heard at out o.
def heard(a, o, t, s, g):
    try:
        return tell_heard(read_desk(t), s, g, a, o)
    except Refusal as e:
        return refused(e)


# Each node's sum, then what each gives, with these samples at the ins.
def mix(t, s, g, ins):
    try:
        return tell_mix(read_desk(t), s, g, ins)
    except Refusal as e:
        return refused(e)


# Whether x can clip; its sum and what it gives with all ins at the most, then with all at the least.
def loud(x, t, s, g):
    try:
        return tell_loud(read_desk(t), s, g, x)
    except Refusal as e:
        return refused(e)


# The whole delay.
def whole(t):
    try:
        return tell_whole(read_desk(t))
    except Refusal as e:
        return refused(e)


# When it comes to x.
def comes(x, t):
    try:
        return tell_comes(read_desk(t), x)
    except Refusal as e:
        return refused(e)


# The wait of the i-th send.
def wait(i, t):
    try:
        return tell_wait(read_desk(t), i)
    except Refusal as e:
        return refused(e)


# The last wait of out o.
def last(o, t):
    try:
        return tell_last(read_desk(t), o)
    except Refusal as e:
        return refused(e)


# How long the way of these nodes is, with the waits.
def long(t, nodes):
    try:
        return tell_long(read_desk(t), nodes)
    except Refusal as e:
        return refused(e)


# The nodes of the first way from an in to x on which nothing waits.
def slow(x, t):
    try:
        return tell_slow(read_desk(t), x)
    except Refusal as e:
        return refused(e)


def refused(refusal):
    return answer(refusal.number, [], refusal.told)
