"""A text tells one desk: what a text was written from is what the calls tell of it."""

import random
import unittest

from mixdesks.hall import find, judge, name, node
from tests.desks import KIND_WORDS, OTHER_WORDS, HallCase, as_bytes

MOST = (8, 8, 4, 4)


class Made:
    """A desk made by a seed, with its text."""

    def __init__(self, seed):
        self.random = random.Random(seed)
        self.kinds = [kind for kind in range(4) for _ in range(self.random.randint(0, MOST[kind]))]
        self.random.shuffle(self.kinds)
        self.names = self.make_names()
        self.safe = [0] * len(self.kinds)
        self.late = [0] * len(self.kinds)
        self.sends = 0
        settings = self.make_states() + self.make_members() + self.make_sends()
        self.random.shuffle(settings)
        nodes = [f"{KIND_WORDS[kind]} {called}" for kind, called in zip(self.kinds, self.names)]
        self.text = "".join(line + "\n" for line in nodes + settings)

    def make_names(self):
        names = []
        while len(names) < len(self.kinds):
            called = "".join(self.random.choices("abz", k=self.random.choice((1, 2, 3, 16))))
            if called not in names + list(KIND_WORDS + OTHER_WORDS):
                names.append(called)
        return names

    def others(self):
        return [i for i in range(len(self.kinds)) if self.kinds[i] != 3]

    def make_states(self):
        lines = []
        for i in self.others():
            if self.random.random() < 0.4:
                self.safe[i] = 1
                lines.append(f"safe {self.names[i]}")
            if self.random.random() < 0.4:
                self.late[i] = self.random.randint(1, 63)
                lines.append(f"late {self.names[i]} {self.late[i]}")
        return lines

    def make_members(self):
        groups = [i for i in range(len(self.kinds)) if self.kinds[i] == 3]
        pairs = [(group, i) for group in groups for i in self.others()]
        chosen = self.random.sample(pairs, len(pairs) // 4)
        return [f"member {self.names[group]} {self.names[i]}" for group, i in chosen]

    def make_sends(self):
        senders = [i for i in range(len(self.kinds)) if self.kinds[i] in (0, 1)]
        targets = [i for i in range(len(self.kinds)) if self.kinds[i] in (1, 2)]
        pairs = [(a, b) for a in senders for b in targets if a < b]
        chosen = self.random.sample(pairs, min(48, self.random.randint(0, len(pairs))))
        self.sends = len(chosen)
        lines = []
        for a, b in chosen:
            gain = self.random.randint(0, 65535)
            lines.append(f"send {self.names[a]} {self.names[b]} {gain} {self.random.choice(('pre', 'post'))}")
        return lines


class OneDeskTest(HallCase):
    def test_what_is_told_is_what_was_written(self):
        for seed in range(150):
            made = Made(seed)
            with self.subTest(seed=seed):
                self.check_made(made, as_bytes(made.text))

    def check_made(self, made, text):
        if len(text) > 4096:
            self.assertEqual([-2, 0, 0], self.answer(judge, text))
            return
        counts = [made.kinds.count(kind) for kind in range(4)]
        self.assertEqual([0, 0, 5, *counts, made.sends], self.answer(judge, text))
        for i, called in enumerate(made.names):
            kind = made.kinds[i]
            before = made.kinds[:i].count(kind)
            letters = as_bytes(called)
            self.assertEqual([i, 0, 0], self.answer(find, text, letters))
            self.assertEqual([len(called), len(called), *letters, 0], self.answer(name, i, text))
            self.assertEqual([0, 0, 4, kind, before, made.safe[i], made.late[i]], self.answer(node, i, text))
        self.assertEqual([-4, 0, 0], self.answer(name, len(made.names), text))
        self.assertEqual([-4, 0, 0], self.answer(node, len(made.names), text))


if __name__ == "__main__":
    unittest.main()
