"""A text tells one desk: what a text was written from is what the calls tell of it."""

import unittest

from mixdesks.hall import find, judge, member, name, node, send
from tests.desks import HallCase, as_bytes
from tests.made import Made


class OneDeskTest(HallCase):
    def test_what_is_told_is_what_was_written(self):
        for seed in range(60):
            made = Made(seed, lengths=(1, 2, 3, 16))
            with self.subTest(seed=seed):
                self.check_made(made, made.bytes)

    def check_made(self, made, text):
        if len(text) > 4096:
            self.assertEqual([-2, 0, 0], self.answer(judge, text))
            return
        counts = [made.kinds.count(kind) for kind in range(4)]
        self.assertEqual([0, 0, 5, *counts, len(made.sends)], self.answer(judge, text))
        for i, called in enumerate(made.names):
            kind = made.kinds[i]
            before = made.kinds[:i].count(kind)
            letters = as_bytes(called)
            self.assertEqual([i, 0, 0], self.answer(find, text, letters))
            self.assertEqual([len(called), len(called), *letters, 0], self.answer(name, i, text))
            self.assertEqual([0, 0, 4, kind, before, made.safe[i], made.late[i]], self.answer(node, i, text))
        for i, told in enumerate(made.sends):
            self.assertEqual([0, 0, 4, *told], self.answer(send, i, text))
        for group in made.of_kinds(3):
            for i in made.others():
                self.assertEqual([int((group, i) in made.members), 0, 0], self.answer(member, group, i, text))
        self.assertEqual([-4, 0, 0], self.answer(send, len(made.sends), text))
        self.assertEqual([-4, 0, 0], self.answer(name, len(made.names), text))
        self.assertEqual([-4, 0, 0], self.answer(node, len(made.names), text))


if __name__ == "__main__":
    unittest.main()
