"""What comes of samples at the ins, and which ins are heard where."""

from mixdesks.desk import IN
from mixdesks.routes import spread_onward
from mixdesks.samples import LEAST_SAMPLE, MOST_SAMPLE, held, rounded


# Sums and what is given stand by the nodes' numbers, before they are held.
class Levels:
    def __init__(self):
        self.sums = []
        self.given = []


# The samples stand in the order of the ins.
def find_levels(setup, samples):
    levels = Levels()
    ins = 0
    # All that send to a node are told earlier than it, so their levels are there already.
    for i, kind in enumerate(setup.desk.kinds):
        if kind == IN:
            total = samples[ins]
            ins += 1
        else:
            total = rounded(sum_sent(setup, levels, i))
        levels.sums.append(total)
        levels.given.append(rounded(held(total) * setup.gains[i]) if setup.live[i] else 0)
    return levels


# All that is sent to node i, by the sends' gains; exactly, as it is to be rounded once.
def sum_sent(setup, levels, i):
    total = 0
    for told in setup.desk.sends:
        if told.target == i and setup.live[told.sender]:
            level = levels.sums[told.sender] if told.pre == 1 else levels.given[told.sender]
            total += held(level) * told.gain
    return total


# Node x's sum and what it gives, before they are held, with all ins at the most, then with all at the least.
# No gain is below 0, so no other samples bring more or less.
def extreme_levels(setup, x):
    ins = setup.desk.kinds.count(IN)
    most = find_levels(setup, [MOST_SAMPLE] * ins)
    least = find_levels(setup, [LEAST_SAMPLE] * ins)
    return [most.sums[x], most.given[x], least.sums[x], least.given[x]]


def is_heard(setup, a, o):
    begun = [i == a and setup.live[a] for i in range(len(setup.desk.kinds))]
    passing = [told for told in setup.desk.sends if lets_through(setup, told)]
    return spread_onward(passing, begun)[o] and setup.gains[o] > 0


# Whether a sound that has come to the sender goes on to a live node by this send.
def lets_through(setup, told):
    leaves = told.pre == 1 or setup.gains[told.sender] > 0
    return leaves and told.gain > 0 and setup.live[told.target]
