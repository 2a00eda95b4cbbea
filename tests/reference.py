"""What switches, faders and samples make of a made desk, told once more in the document's own words and slowly."""

from fractions import Fraction

from tests.made import GROUP, IN, OUT

LEAST, MOST = -8388608, 8388607


def nearest(number):
    """The nearest whole number, of two as near the even one: what Python's own round does with a fraction."""
    return round(Fraction(number))


def hold(sample):
    if sample > MOST:
        return MOST
    if sample < LEAST:
        return LEAST
    return sample


class Reference:
    def __init__(self, made, s, g):
        self.made = made
        self.s = s
        self.g = g
        self.nodes = range(len(made.kinds))
        self.soloed = [i for i in made.others() if any(s[j] in (2, 3) for j in [i, *self.groups(i)])]
        self.live = [self.is_live(i) for i in self.nodes]
        self.gains = [self.whole_gain(i) for i in self.nodes]

    def groups(self, i):
        return [group for group in self.nodes if (group, i) in self.made.members]

    def is_muted(self, i):
        return any(self.s[j] in (1, 3) for j in [i, *self.groups(i)])

    def is_live(self, i):
        if self.made.kinds[i] == GROUP or self.is_muted(i):
            return False
        if not self.soloed or i in self.soloed or self.made.safe[i]:
            return True
        return any(self.made.ways(i, other) or self.made.ways(other, i) for other in self.soloed)

    def why(self, i):
        if self.live[i]:
            return [1, 0, 2, 0, 0]
        if self.s[i] in (1, 3):
            return [0, 0, 2, 1, 0]
        muting = [group for group in self.groups(i) if self.s[group] in (1, 3)]
        if muting:
            return [0, 0, 2, 2, min(muting)]
        return [0, 0, 2, 3, 0]

    def whole_gain(self, i):
        gain = self.g[i]
        for group in self.groups(i):
            gain = min(65535, nearest(Fraction(gain * self.g[group], 16384)))
        return gain

    def heard(self, a, o):
        return any(self.carries(way) for way in self.made.ways(a, o))

    def carries(self, way):
        sends = {(sender, target): (gain, pre) for sender, target, gain, pre in self.made.sends}
        left_by = [sends[pair] for pair in zip(way, way[1:])]
        if not all(self.live[i] for i in way) or any(gain == 0 for gain, _ in left_by):
            return False
        counted = [i for i, (_, pre) in zip(way, left_by) if not pre] + [way[-1]]
        return all(self.gains[i] > 0 for i in counted)

    def levels(self, ins):
        """Each node's sum and what it gives, before they're held."""
        given = dict(zip(self.made.of_kinds(IN), ins))
        sums, gives = [], []
        for i in self.nodes:
            exact = Fraction(0)
            for sender, target, gain, pre in self.made.sends:
                if target == i and self.live[sender]:
                    exact += Fraction(hold(sums[sender] if pre else gives[sender]) * gain, 16384)
            sums.append(hold(given[i]) if i in given else nearest(exact))
            gives.append(nearest(Fraction(hold(sums[i]) * self.gains[i], 16384)) if self.live[i] else 0)
        return sums, gives


def ways_from_ins(made, x):
    return [way for a in made.of_kinds(IN) for way in made.ways(a, x)]


def bare_length(made, way):
    """How long a way is without waits."""
    return sum(made.late[i] for i in way[:-1])


def longest(made, x):
    """How long the longest way from an in to x is without waits; None if there's none."""
    return max((bare_length(made, way) for way in ways_from_ins(made, x)), default=None)


def wait_of(made, i):
    sender, target, _, _ = made.sends[i]
    comes = longest(made, sender)
    return 0 if comes is None else longest(made, target) - comes - made.late[sender]


def whole_delay(made):
    outs = [o for o in made.of_kinds(OUT) if longest(made, o) is not None]
    return max((longest(made, o) + made.late[o] for o in outs), default=0)


def pick_settings(made, chance):
    """Switches and faders for a made desk, mostly of the values at which something changes."""
    often = chance.choice(((0, 0, 0, 0, 1), (0, 0, 0, 2), (0, 0, 0, 0, 1, 2, 3), (0, 1, 2, 3)))
    s = [chance.choice(often) for _ in made.kinds]
    g = [chance.choice((0, 1, 8192, 16383, 16384, 16385, 32768, 65535, chance.randint(0, 65535))) for _ in made.kinds]
    return s, g


def pick_samples(made, chance):
    ends = (LEAST - 1, LEAST, -1, 0, 1, MOST, MOST + 1, -(2**63), 2**63 - 1)
    return [chance.choice((*ends, chance.randint(LEAST, MOST), chance.randint(-99, 99))) for _ in made.of_kinds(IN)]
