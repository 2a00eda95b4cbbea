import random
import unittest

from mixdesks.hall import gain
from tests.desks import MOST_NUMBER, UNIT, HallCase, as_bytes, numbers_by_name, whole_desk
from tests.made import Made
from tests.reference import Reference, pick_settings

# a of no group; b of k; c of k, l and m, said the last first; d of l and m.
TEXT = (
    "in a\ngroup k\nin b\nbus c\ngroup l\nout d\ngroup m\nmember m c\nmember l c\nmember k c\nmember k b\n"
    "member m d\nmember l d\nsend a c 0 pre\nsend c d 3 post\n"
)
NUMBERS = {"a": 0, "k": 1, "b": 2, "c": 3, "l": 4, "d": 5, "m": 6}


class GainTest(HallCase):
    def check(self, wanted, called, **faders):
        """That the node has that whole gain, the other nodes' faders being 5 and the other groups' as loud as it came."""
        usual = {"a": 5, "b": 5, "c": 5, "d": 5}
        g = numbers_by_name(TEXT, UNIT, **{**usual, **faders})
        for switch in (0, 1, 2, 3):
            told = self.answer(gain, NUMBERS[called], as_bytes(TEXT), [switch] * 7, g)
            self.assertEqual([wanted, 0, 0], told, (called, faders))

    def test_of_no_group(self):
        for fader in (0, 1, UNIT, 65535):
            self.check(fader, "a", a=fader, k=3, l=7, m=0)

    def test_of_one_group(self):
        self.check(40000, "b", b=40000)
        self.check(20000, "b", b=40000, k=8192)
        self.check(0, "b", b=65535, k=0)
        self.check(0, "b", b=0, k=65535)

    def test_rounded_to_the_nearest(self):
        self.check(1, "b", b=1, k=UNIT - 1)
        self.check(1, "b", b=1, k=8193)
        self.check(0, "b", b=1, k=8191)
        self.check(9999, "b", b=10000, k=16383)

    def test_halves_go_to_the_even_one(self):
        for fader, wanted in ((1, 0), (3, 2), (5, 2), (7, 4), (9, 4), (11, 6), (65535, 32768), (65533, 32766)):
            self.check(wanted, "b", b=fader, k=8192)

    def test_held_at_65535(self):
        self.check(65535, "b", b=65535)
        self.check(65535, "b", b=65535, k=16385)
        self.check(65535, "b", b=65535, k=65535)
        self.check(65535, "b", b=UNIT, k=65535)
        self.check(65531, "b", b=16383, k=65535)
        self.check(65534, "b", b=43689, k=24576)
        self.check(65535, "b", b=43690, k=24576)
        self.check(65535, "b", b=43691, k=24576)

    def test_order_of_the_groups_numbers(self):
        # Held at the first group and at each behind it, not at the end.
        self.check(32768, "c", c=40000, k=32768, l=8192)
        self.check(40000, "c", c=40000, k=8192, l=32768)
        self.check(32768, "c", c=40000, l=32768, m=8192)
        self.check(16384, "c", c=65535, k=65535, l=8192, m=8192)
        self.check(65535, "c", c=40000, k=8192, l=65535, m=65535)

    def test_rounded_at_each_group(self):
        # 3 / 2 goes to 2, that to 1, that to 0 (a half); at once 3 / 8 would go to 0 too, 5 / 8 to 1.
        self.check(0, "c", c=3, k=8192, l=8192, m=8192)
        self.check(0, "c", c=5, k=8192, l=8192, m=8192)
        self.check(4, "c", c=3, k=8192, l=32768)
        self.check(3, "c", c=3, k=32768, l=8192)

    def test_only_its_own_groups_count(self):
        self.check(7, "d", d=7, k=0, a=0, c=0)
        self.check(14, "d", d=7, k=0, l=32768)
        self.check(28, "d", d=7, l=32768, m=32768)

    def test_four_groups(self):
        nodes, names = whole_desk(2)
        text = as_bytes(nodes + "".join(f"member {group} ia\n" for group in reversed(names["group"])))
        g = [1000] + [0] * 19 + [32768, 8192, 24576, 4096]
        self.assertEqual([375, 0, 0], self.answer(gain, 0, text, [0] * 24, g))

    def test_made_desks(self):
        for seed in range(100):
            made = Made(seed)
            s, g = pick_settings(made, random.Random(seed))
            reference = Reference(made, s, g)
            for x in made.others():
                with self.subTest(seed=seed, x=x):
                    self.assertEqual([reference.gains[x], 0, 0], self.answer(gain, x, made.bytes, s, g))

    def test_group_and_no_such_node(self):
        for x in (1, 4, 6):
            self.assertEqual([-1, 0, 0], self.answer(gain, x, as_bytes(TEXT), [3] * 7, [65535] * 7))
        for x in (7, 24, 2**63, MOST_NUMBER):
            self.assertEqual([-4, 0, 0], self.answer(gain, x, as_bytes(TEXT), [3] * 7, [65535] * 7))
        self.assertEqual([-4, 0, 0], self.answer(gain, 0, [], [], []))

    def test_switches_and_faders_are_refused_before_the_node(self):
        self.check_setting_refusals(7, lambda s, g, x: self.answer(gain, x, as_bytes(TEXT), s, g), [0, 1, 7, MOST_NUMBER])
        self.assertEqual([-5, 0, 0], self.answer(gain, 0, [], [], [0]))

    def test_text_is_refused_first(self):
        handed = [(0, []), (24, [0] * 24), (0, [MOST_NUMBER] * 24), (MOST_NUMBER, [4])]
        self.check_text_refusals(lambda t, pair: self.answer(gain, pair[0], t, pair[1], pair[1]), handed)


if __name__ == "__main__":
    unittest.main()
