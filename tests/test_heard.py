import random
import unittest

from mixdesks.hall import heard
from tests.desks import MOST_NUMBER, UNIT, HallCase, as_bytes, crowded_desk, numbers_by_name
from tests.made import IN, OUT, Made
from tests.reference import Reference, pick_settings

# Two ways from a to e: a post c post e, and a pre d pre e; b to f by a pre and a post send; k is a group of c.
TEXT = (
    "in a\nin b\nbus c\nbus d\nout e\ngroup k\nbus h\nout f\nmember k c\nsafe h\n"
    "send a c 16384 post\nsend c e 1 post\nsend a d 65535 pre\nsend d e 8192 pre\nsend b h 16384 pre\nsend h f 1 post\n"
)


class HeardTest(HallCase):
    def check(self, wanted, a, o, text=TEXT, s=None, g=None):
        """That in a is heard at out o, or isn't, by switches and faders of some nodes by name."""
        names = [line.split(" ")[1] for line in text.splitlines()]
        switches = numbers_by_name(text, 0, **(s or {}))
        faders = numbers_by_name(text, UNIT, **(g or {}))
        told = self.answer(heard, names.index(a), names.index(o), as_bytes(text), switches, faders)
        self.assertEqual([wanted, 0, 0], told, (a, o, s, g))

    def test_ways_and_no_ways(self):
        self.check(1, "a", "e")
        self.check(1, "b", "f")
        self.check(0, "a", "f")
        self.check(0, "b", "e")

    def test_all_nodes_of_a_way_must_be_live(self):
        self.check(1, "a", "e", s={"c": 1})
        self.check(1, "a", "e", s={"d": 1})
        self.check(1, "a", "e", s={"k": 1})
        self.check(0, "a", "e", s={"c": 1, "d": 1})
        self.check(0, "a", "e", s={"k": 1, "d": 1})
        self.check(0, "a", "e", s={"a": 1})
        self.check(0, "a", "e", s={"e": 1})
        for muted in "bhf":
            self.check(0, "b", "f", s={muted: 1})
            self.check(1, "a", "e", s={muted: 1})

    def test_solos(self):
        self.check(1, "a", "e", s={"c": 2})
        self.check(1, "a", "e", s={"e": 2})
        self.check(0, "b", "f", s={"e": 2})
        self.check(1, "b", "f", s={"e": 2, "b": 2})
        self.check(0, "a", "e", s={"b": 2})
        # The way by c is live, that by d isn't, so the sound must pass all that a post send needs.
        self.check(0, "a", "e", s={"c": 2}, g={"a": 0})
        self.check(1, "a", "e", g={"a": 0})

    def test_whole_gains_of_0(self):
        self.check(0, "a", "e", g={"e": 0})
        self.check(0, "b", "f", g={"f": 0})
        self.check(1, "b", "f", g={"b": 0})
        self.check(0, "b", "f", g={"h": 0})
        self.check(1, "a", "e", g={"a": 0, "c": 0, "d": 0})
        self.check(0, "a", "e", g={"a": 0}, s={"d": 1})
        self.check(0, "a", "e", g={"c": 0}, s={"d": 1})
        self.check(0, "a", "e", g={"k": 0}, s={"d": 1})
        self.check(1, "a", "e", g={"k": 0}, s={"c": 1})

    def test_the_outs_gain_counts_however_it_is_reached(self):
        for word in ("pre", "post"):
            text = f"in a\nout b\nsend a b 5 {word}\n"
            self.check(0, "a", "b", text, g={"b": 0})
            self.check(1, "a", "b", text, g={"b": 1})

    def test_whole_gain_that_rounds_to_0(self):
        text = "in a\nout b\ngroup k\nmember k a\nsend a b 5 post\n"
        self.check(0, "a", "b", text, g={"a": 1, "k": 8192})
        self.check(1, "a", "b", text, g={"a": 1, "k": 8193})
        self.check(0, "a", "b", text.replace("member k a", "member k b"), g={"b": 1, "k": 8192})

    def test_sends_of_gain_0(self):
        for first, second, wanted in ((0, 1, 0), (1, 0, 0), (0, 0, 0), (1, 1, 1), (65535, 65535, 1)):
            for word in ("pre", "post"):
                text = f"in a\nbus b\nout c\nsend b c {second} {word}\nsend a b {first} {word}\n"
                self.check(wanted, "a", "c", text)

    def test_pre_send_of_a_node_that_is_not_live(self):
        self.check(0, "b", "f", s={"b": 1}, g={"b": 0})
        self.check(0, "a", "b", "in a\nout b\nsend a b 5 pre\n", s={"a": 1})

    def test_told_though_too_quiet_to_change_a_sample(self):
        # 8,388,607 by 1 by 1 / 16,384 is less than a half; it's still heard by the document's words.
        text = "in a\nbus b\nout c\nsend a b 1 post\nsend b c 1 post\n"
        self.check(1, "a", "c", text, g={"a": 1, "b": 1, "c": 1})

    def test_crowded_desk(self):
        text = as_bytes(crowded_desk())
        for muted in range(8, 16):
            only = [0 if i in (0, muted, 16) else 1 for i in range(20)]
            self.assertEqual([1, 0, 0], self.answer(heard, 0, 16, text, only, [UNIT] * 20))
        self.assertEqual([0, 0, 0], self.answer(heard, 1, 16, text, [0] * 8 + [1] + [0] * 11, [UNIT] * 20))
        self.assertEqual([0, 0, 0], self.answer(heard, 2, 16, text, [0] * 20, [UNIT] * 20))
        self.assertEqual([1, 0, 0], self.answer(heard, 7, 19, text, [0] * 20, [UNIT] * 20))

    def test_made_desks(self):
        for seed in range(150):
            made = Made(seed)
            s, g = pick_settings(made, random.Random(seed))
            reference = Reference(made, s, g)
            for a in made.of_kinds(IN):
                for o in made.of_kinds(OUT):
                    with self.subTest(seed=seed, a=a, o=o):
                        wanted = [int(reference.heard(a, o)), 0, 0]
                        self.assertEqual(wanted, self.answer(heard, a, o, made.bytes, s, g))

    def test_refused(self):
        far = (8, 24, 2**63, MOST_NUMBER)
        for a in (2, 3, 4, 5, 6, 7):
            for o in (4, 0, 2, 5, *far):
                self.check_numbers(-1, a, o)
        for o in (0, 1, 2, 3, 5, 6):
            for a in (0, *far):
                self.check_numbers(-1, a, o)
        for away in far:
            self.check_numbers(-4, 0, away)
            self.check_numbers(-4, away, 4)
            self.check_numbers(-4, away, away)

    def check_numbers(self, wanted, a, o):
        with self.subTest(a=a, o=o):
            self.assertEqual([wanted, 0, 0], self.answer(heard, a, o, as_bytes(TEXT), [3] * 8, [65535] * 8))

    def test_desk_of_nothing(self):
        self.assertEqual([-4, 0, 0], self.answer(heard, 0, 0, [], [], []))
        self.assertEqual([-5, 0, 0], self.answer(heard, 0, 0, [], [0], []))

    def test_switches_and_faders_are_refused_before_the_nodes(self):
        pairs = [(0, 4), (4, 0), (0, 8), (8, 4), (MOST_NUMBER, MOST_NUMBER)]
        self.check_setting_refusals(8, lambda s, g, pair: self.answer(heard, *pair, as_bytes(TEXT), s, g), pairs)

    def test_text_is_refused_first(self):
        handed = [(0, []), (24, [0] * 24), (0, [MOST_NUMBER] * 24), (MOST_NUMBER, [4])]
        self.check_text_refusals(lambda t, pair: self.answer(heard, pair[0], 0, t, pair[1], pair[1]), handed)


if __name__ == "__main__":
    unittest.main()
