import random
import unittest

from mixdesks.hall import live
from tests.desks import FULL, MOST_NUMBER, UNIT, HallCase, as_bytes, numbers_by_name, text_of_length
from tests.made import Made
from tests.reference import Reference, pick_settings

# a, b -> c -> d -> e; b -> f -> h. Groups: k of a and f, l of a and c, m of none. h and i are safe.
TEXT = (
    "group k\nin a\nin b\nbus c\nbus d\nout e\ngroup l\nbus f\nout h\nin i\ngroup m\n"
    "safe h\nsafe i\nmember l a\nmember k a\nmember l c\nmember k f\n"
    "send c d 0 post\nsend a c 0 pre\nsend b c 16384 pre\nsend d e 65535 post\nsend b f 0 pre\nsend f h 1 post\n"
)
NAMES = ("k", "a", "b", "c", "d", "e", "l", "f", "h", "i", "m")
LIVE = [1, 0, 2, 0, 0]
ITSELF = [0, 0, 2, 1, 0]
OTHERS = [0, 0, 2, 3, 0]
BY_K = [0, 0, 2, 2, 0]
BY_L = [0, 0, 2, 2, 6]


class LiveTest(HallCase):
    def check(self, switches, **wanted):
        """That with these switches of some nodes the wanted are so, and all other nodes are live."""
        s = numbers_by_name(TEXT, 0, **switches)
        for x, called in enumerate(NAMES):
            if called not in "klm":
                with self.subTest(switches=switches, called=called):
                    told = self.answer(live, x, as_bytes(TEXT), s, [0] * 11)
                    self.assertEqual(wanted.get(called, LIVE), told)

    def test_nothing_switched(self):
        self.check({})

    def test_own_switch(self):
        self.check({"a": 1}, a=ITSELF)
        self.check({"d": 1, "e": 1}, d=ITSELF, e=ITSELF)

    def test_group_mutes(self):
        self.check({"k": 1}, a=BY_K, f=BY_K)
        self.check({"l": 1}, a=BY_L, c=BY_L)
        self.check({"m": 1})

    def test_least_group_that_mutes(self):
        self.check({"k": 1, "l": 1}, a=BY_K, c=BY_L, f=BY_K)

    def test_own_switch_goes_before_a_groups(self):
        self.check({"a": 1, "l": 1}, a=ITSELF, c=BY_L)

    def test_solo_in_the_middle(self):
        self.check({"c": 2}, f=OTHERS)

    def test_solo_that_a_way_reaches(self):
        self.check({"e": 2}, f=OTHERS)
        self.check({"h": 2}, a=OTHERS, c=OTHERS, d=OTHERS, e=OTHERS)

    def test_solo_that_reaches(self):
        self.check({"a": 2}, b=OTHERS, f=OTHERS)
        self.check({"f": 2}, a=OTHERS, c=OTHERS, d=OTHERS, e=OTHERS)

    def test_safe_nodes_are_live_but_not_what_leads_to_them(self):
        self.check({"d": 2}, f=OTHERS)
        self.check({"i": 2}, a=OTHERS, b=OTHERS, c=OTHERS, d=OTHERS, e=OTHERS, f=OTHERS)

    def test_several_solos(self):
        self.check({"a": 2, "f": 2})
        self.check({"i": 2, "f": 2}, a=OTHERS, c=OTHERS, d=OTHERS, e=OTHERS)

    def test_solo_of_a_group(self):
        self.check({"k": 2})
        self.check({"l": 2}, f=OTHERS)

    def test_solo_of_a_group_without_members(self):
        self.check({"m": 2})
        self.check({"m": 3})

    def test_mute_goes_before_others_solos(self):
        self.check({"i": 2, "a": 1, "k": 1}, a=ITSELF, b=OTHERS, c=OTHERS, d=OTHERS, e=OTHERS, f=BY_K)

    def test_safe_nodes_are_muted_like_others(self):
        self.check({"h": 1, "i": 1}, h=ITSELF, i=ITSELF)
        self.check({"d": 2, "h": 1}, f=OTHERS, h=ITSELF)

    def test_muted_solo_is_one(self):
        self.check({"d": 3}, d=ITSELF, f=OTHERS)
        self.check({"k": 3}, a=BY_K, f=BY_K)
        self.check({"l": 1, "a": 2}, a=BY_L, b=OTHERS, c=BY_L, f=OTHERS)

    def test_ways_go_through_muted_nodes(self):
        self.check({"a": 2, "c": 1}, b=OTHERS, c=ITSELF, f=OTHERS)
        self.check({"e": 2, "d": 1}, d=ITSELF, f=OTHERS)

    def test_faders_do_not_matter(self):
        s = numbers_by_name(TEXT, 0, d=2)
        for fader in (0, 1, UNIT, 65535):
            self.assertEqual(LIVE, self.answer(live, 1, as_bytes(TEXT), s, [fader] * 11))
            self.assertEqual(OTHERS, self.answer(live, 7, as_bytes(TEXT), s, [fader] * 11))

    def test_made_desks(self):
        for seed in range(120):
            made = Made(seed)
            s, g = pick_settings(made, random.Random(seed))
            reference = Reference(made, s, g)
            for x in made.others():
                with self.subTest(seed=seed, x=x):
                    self.assertEqual(reference.why(x), self.answer(live, x, made.bytes, s, g))

    def test_text_of_4096_bytes(self):
        text = as_bytes(text_of_length(4096))
        self.assertEqual(LIVE, self.answer(live, 19, text, [0] * 24, [0] * 24))
        self.assertEqual(OTHERS, self.answer(live, 19, text, [2] + [0] * 23, [0] * 24))

    def test_group_and_no_such_node(self):
        for x in (0, 6, 10):
            self.assertEqual([-1, 0, 0], self.answer(live, x, as_bytes(TEXT), [3] * 11, [65535] * 11))
        for x in (11, 24, 2**63, MOST_NUMBER):
            self.assertEqual([-4, 0, 0], self.answer(live, x, as_bytes(TEXT), [3] * 11, [65535] * 11))
        self.assertEqual([-4, 0, 0], self.answer(live, 0, [], [], []))

    def test_switches_and_faders_are_refused_before_the_node(self):
        self.check_setting_refusals(11, lambda s, g, x: self.answer(live, x, as_bytes(TEXT), s, g), [0, 1, 11, MOST_NUMBER])
        self.assertEqual([-5, 0, 0], self.answer(live, 0, [], [0], []))
        self.assertEqual([-5, 0, 0], self.answer(live, 0, [], [], [MOST_NUMBER]))

    def test_text_is_refused_first(self):
        handed = [(0, []), (24, [0] * 24), (0, [MOST_NUMBER] * 24), (MOST_NUMBER, [4])]
        self.check_text_refusals(lambda t, pair: self.answer(live, pair[0], t, pair[1], pair[1]), handed)


if __name__ == "__main__":
    unittest.main()
