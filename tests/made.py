"""Desks made by seeds, with what their texts were written from."""

import random

from tests.desks import KIND_WORDS, OTHER_WORDS, as_bytes

MOST = (8, 8, 4, 4)
IN, BUS, OUT, GROUP = range(4)


class Made:
    """A desk made by a seed, with its text; names of short letters keep that below 4,096 bytes.

    Members are pairs (group, node); sends are (from, to, gain, pre), in the order of their lines.
    """

    def __init__(self, seed, lengths=(1, 2, 3), most=MOST):
        self.random = random.Random(seed)
        self.kinds = [kind for kind in range(4) for _ in range(self.random.randint(0, most[kind]))]
        self.disorder()
        self.names = self.make_names(lengths)
        self.safe = [0] * len(self.kinds)
        self.late = [0] * len(self.kinds)
        self.members = self.make_members()
        self.sends = self.make_sends()
        nodes = [f"{KIND_WORDS[kind]} {called}" for kind, called in zip(self.kinds, self.names)]
        self.text = "".join(line + "\n" for line in nodes + self.make_settings())
        self.bytes = as_bytes(self.text)

    def disorder(self):
        """Puts groups anywhere, and the others so that mostly there can be many sends: ins before buses before outs."""
        spread = self.random.choice((1, 2, 2, 20))
        places = [self.random.random() * spread + (kind if kind != GROUP else 3 * self.random.random())
                  for kind in self.kinds]
        self.kinds = [kind for _, kind in sorted(zip(places, self.kinds))]

    def make_names(self, lengths):
        names = []
        while len(names) < len(self.kinds):
            called = "".join(self.random.choices("abz", k=self.random.choice(lengths)))
            if called not in names + list(KIND_WORDS + OTHER_WORDS):
                names.append(called)
        return names

    def of_kinds(self, *kinds):
        return [i for i in range(len(self.kinds)) if self.kinds[i] in kinds]

    def others(self):
        return self.of_kinds(IN, BUS, OUT)

    def make_members(self):
        pairs = [(group, i) for group in self.of_kinds(GROUP) for i in self.others()]
        return self.random.sample(pairs, len(pairs) // 4)

    def make_sends(self):
        pairs = [(a, b) for a in self.of_kinds(IN, BUS) for b in self.of_kinds(BUS, OUT) if a < b]
        most = min(48, len(pairs))
        chosen = self.random.sample(pairs, max(self.random.randint(0, most), self.random.randint(0, most)))
        return [(a, b, self.make_gain(), self.random.randint(0, 1)) for a, b in chosen]

    def make_gain(self):
        return self.random.choice((0, 1, 8192, 16384, 65535, self.random.randint(0, 65535)))

    def make_settings(self):
        """The lines of all settings, mixed; the sends' among them in the sends' order."""
        lines = self.make_states()
        lines += [f"member {self.names[group]} {self.names[i]}" for group, i in self.members]
        self.random.shuffle(lines)
        for a, b, gain, pre in reversed(self.sends):
            lines.append(f"send {self.names[a]} {self.names[b]} {gain} {('post', 'pre')[pre]}")
        places = sorted(self.random.sample(range(len(lines)), len(self.sends)))
        plain = lines[: len(lines) - len(self.sends)]
        told = lines[len(lines) - len(self.sends):]
        return [told.pop() if place in places else plain.pop() for place in range(len(lines))]

    def make_states(self):
        lines = []
        for i in self.others():
            if self.random.random() < 0.4:
                self.safe[i] = 1
                lines.append(f"safe {self.names[i]}")
            if self.random.random() < 0.4:
                self.late[i] = self.random.randint(1, 63)
                lines.append(f"late {self.names[i]} {self.late[i]}")
        return lines

    def ways(self, a, b):
        """All ways from a to b, in order, by trying each send of each node."""
        if a == b:
            return [[b]]
        return sorted([a, *rest] for sender, target, _, _ in self.sends if sender == a for rest in self.ways(target, b))
