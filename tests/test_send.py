import unittest

from mixdesks.hall import send
from tests.desks import FULL, MOST_NUMBER, HallCase, as_bytes, crowded_desk, text_of_length


class SendTest(HallCase):
    def told(self, i, text):
        return self.answer(send, i, as_bytes(text))

    def check_sends(self, wanted, text):
        """That these are the sends, and there's none behind them."""
        for i, (sender, target, gain, pre) in enumerate(wanted):
            self.assertEqual([0, 0, 4, sender, target, gain, pre], self.told(i, text))
        self.assertEqual([-4, 0, 0], self.told(len(wanted), text))

    def test_sends_among_other_settings(self):
        self.check_sends([(0, 3, 16384, 1), (0, 4, 0, 0), (3, 4, 65535, 0), (6, 8, 1, 1)], FULL)

    def test_order_of_the_lines_not_of_the_nodes(self):
        nodes = "in a\ngroup g\nin b\nbus c\nbus d\nout e\n"
        sends = "send d e 4 pre\nsend c d 3 post\nsafe a\nsend b e 2 post\nsend a e 1 pre\nsend a c 0 pre\n"
        self.check_sends([(4, 5, 4, 1), (3, 4, 3, 0), (2, 5, 2, 0), (0, 5, 1, 1), (0, 3, 0, 1)], nodes + sends)

    def test_gains_and_pre_or_post(self):
        for gain in (0, 1, 9, 10, 16383, 16384, 65534, 65535):
            for pre, word in enumerate(("post", "pre")):
                self.check_sends([(0, 1, gain, pre)], f"in a\nout b\nsend a b {gain} {word}\n")

    def test_all_48_of_a_crowded_desk(self):
        row = [0, *range(8, 17)]
        pairs = [(a, b) for a in row for b in row if a < b] + [(1, 8), (7, 15), (15, 19)]
        self.check_sends([(a, b, 7 * b, 1) for a, b in sorted(pairs, reverse=True)], crowded_desk())

    def test_text_of_4096_bytes(self):
        text = text_of_length(4096)
        self.assertEqual([0, 0, 4, 0, 8], self.told(0, text)[:5])
        self.assertEqual([0, 0, 4, 5, 15], self.told(47, text)[:5])
        self.assertEqual([-4, 0, 0], self.told(48, text))

    def test_no_such_send(self):
        for i in (4, 5, 9, 48, 2**32, 2**63, 2**64 - 4, MOST_NUMBER):
            with self.subTest(i=i):
                self.assertEqual([-4, 0, 0], self.told(i, FULL))

    def test_no_sends(self):
        for text in ("", "in a\nout b\n", "in a\ngroup b\nmember b a\nsafe a\nlate a 1\n"):
            self.check_sends([], text)
            self.assertEqual([-4, 0, 0], self.told(MOST_NUMBER, text))

    def test_text_is_refused_first(self):
        self.check_text_refusals(lambda t, i: self.answer(send, i, t), [0, 1, 48, MOST_NUMBER])


if __name__ == "__main__":
    unittest.main()
