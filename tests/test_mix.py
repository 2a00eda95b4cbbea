import random
import unittest

from mixdesks.hall import mix
from tests.desks import LEAST_SIGNED, MOST_NUMBER, MOST_SIGNED, UNIT, HallCase, as_bytes, crowded_desk
from tests.desks import numbers_by_name, text_of_length
from tests.made import Made
from tests.reference import LEAST, MOST, Reference, hold, pick_samples, pick_settings

# k is a group of b; c takes a's sum and what b gives.
TEXT = (
    "in a\ngroup k\nin b\nbus c\nout d\nout e\nmember k b\n"
    "send a c 16384 pre\nsend b c 8192 post\nsend c d 16384 post\nsend c e 32768 pre\nsend b e 4096 pre\n"
)


class MixTest(HallCase):
    def check(self, sums, gives, text, ins, s=None, g=None):
        """That these are the sums and what the nodes give, by switches and faders of some nodes by name."""
        switches = numbers_by_name(text, 0, **(s or {}))
        faders = numbers_by_name(text, UNIT, **(g or {}))
        count = len(switches)
        told = self.answer(mix, as_bytes(text), switches, faders, list(ins))
        self.assertEqual([count, 0, 2 * count, *sums, *gives], told, (text, ins, s, g))

    def check_out(self, wanted, sample, send_gain):
        """That a sample by a send's gain is that in the end."""
        text = f"in a\nout b\nsend a b {send_gain} post\n"
        self.check([hold(sample), wanted], [hold(sample), wanted], text, [sample])

    def test_sums_then_what_is_given(self):
        self.check([100, 0, 40, 120, 120, 250], [100, 0, 40, 120, 120, 250], TEXT, [100, 40])

    def test_faders(self):
        g = {"a": 0, "b": 32768, "c": 8192, "d": 65535, "e": 1}
        self.check([100, 0, 40, 140, 70, 290], [0, 0, 80, 70, 280, 0], TEXT, [100, 40], g=g)

    def test_a_groups_fader_is_its_members(self):
        self.check([100, 0, 40, 140, 140, 290], [100, 0, 80, 140, 140, 290], TEXT, [100, 40], g={"k": 32768})

    def test_a_node_that_is_not_live_has_a_sum_but_gives_and_sends_nothing(self):
        self.check([100, 0, 40, 20, 20, 50], [0, 0, 40, 20, 20, 50], TEXT, [100, 40], s={"a": 1})
        self.check([100, 0, 40, 100, 100, 200], [100, 0, 0, 100, 100, 200], TEXT, [100, 40], s={"k": 1})
        self.check([100, 0, 40, 120, 0, 10], [100, 0, 40, 0, 0, 10], TEXT, [100, 40], s={"c": 1})
        self.check([100, 0, 40, 120, 120, 250], [100, 0, 40, 120, 0, 250], TEXT, [100, 40], s={"d": 1})

    def test_solos(self):
        self.check([100, 0, 40, 100, 100, 200], [100, 0, 0, 100, 100, 200], TEXT, [100, 40], s={"a": 2})
        self.check([100, 0, 40, 120, 120, 250], [100, 0, 40, 120, 0, 250], TEXT, [100, 40], s={"e": 2})
        self.check([100, 0, 40, 20, 20, 50], [0, 0, 40, 20, 20, 50], TEXT + "safe d\n", [100, 40], s={"k": 2})

    def test_pre_send_of_a_node_with_gain_0(self):
        self.check([5, 5], [0, 5], "in a\nout b\nsend a b 16384 pre\n", [5], g={"a": 0})
        self.check([5, 0], [0, 0], "in a\nout b\nsend a b 16384 post\n", [5], g={"a": 0})

    def test_sends_of_gain_0(self):
        for word in ("pre", "post"):
            self.check([MOST, 0], [MOST, 0], f"in a\nout b\nsend a b 0 {word}\n", [MOST])

    def test_rounded_to_the_nearest(self):
        for sample, send_gain, wanted in (
            (1, UNIT, 1), (-1, UNIT, -1), (1, 8191, 0), (1, 8193, 1), (-1, 8191, 0), (-1, 8193, -1),
            (3, 5461, 1), (3, 5462, 1), (-3, 5462, -1), (100, 1, 0), (8191, 1, 0), (8193, 1, 1), (-8193, 1, -1),
            (MOST, 1, 512), (LEAST, 1, -512), (7, 65535, 28), (-7, 65535, -28),
        ):
            self.check_out(wanted, sample, send_gain)

    def test_halves_go_to_the_even_one(self):
        for sample, wanted in ((1, 0), (3, 2), (5, 2), (7, 4), (9, 4), (-1, 0), (-3, -2), (-5, -2), (-7, -4), (-9, -4),
                               (MOST, 4194304), (MOST - 2, 4194302)):
            self.check_out(wanted, sample, 8192)
        self.check_out(0, 8192, 1)
        self.check_out(2, 24576, 1)
        self.check_out(0, -8192, 1)
        self.check_out(-2, -24576, 1)

    def test_what_is_given_is_rounded_like_a_send(self):
        for sample, fader, wanted in ((1, 8192, 0), (3, 8192, 2), (-1, 8192, 0), (-3, 8192, -2), (-5, 8192, -2),
                                      (1, 8193, 1), (-1, 8191, 0), (7, 65535, 28)):
            self.check([sample], [wanted], "in a\n", [sample], g={"a": fader})
            text = "in a\nout b\nsend a b 16384 pre\n"
            self.check([sample, sample], [sample, wanted], text, [sample], g={"b": fader})

    def test_a_sum_is_rounded_once(self):
        text = "in a\nin b\nin c\nout d\nsend a d 8192 pre\nsend b d 8192 pre\nsend c d 8192 pre\n"
        for ins, total in (((1, 1, 0), 1), ((1, 1, 1), 2), ((3, 3, 3), 4), ((-1, -1, 0), -1), ((-1, -1, -1), -2),
                           ((1, -1, 1), 0), ((5, 0, 0), 2)):
            self.check([*ins, total], [*ins, total], text, ins)
        text = "in a\nin b\nout d\nsend a d 5461 pre\nsend b d 5462 post\n"
        self.check([1, 1, 1], [1, 1, 1], text, [1, 1])

    def test_a_sum_is_held_at_its_end_not_on_the_way(self):
        text = "in a\nin b\nin c\nout d\nsend a d 65535 pre\nsend b d 65535 pre\nsend c d 65535 pre\n"
        self.check([MOST, MOST, LEAST, MOST], [MOST, MOST, LEAST, MOST], text, [MOST, MOST, LEAST])
        exact = (MOST - 1000 - MOST) * 65535
        wanted = round(exact / UNIT)
        self.check([MOST, -1000, -MOST, wanted], [MOST, -1000, -MOST, wanted], text, [MOST, -1000, -MOST])

    def test_held(self):
        for sample, send_gain, wanted in (
            (MOST, UNIT, MOST), (LEAST, UNIT, LEAST), (MOST, UNIT + 1, MOST), (LEAST, UNIT + 1, LEAST),
            (4194304, 32768, MOST), (4194303, 32768, MOST - 1), (-4194304, 32768, LEAST), (-4194305, 32768, LEAST),
            (MOST, 65535, MOST), (LEAST, 65535, LEAST),
        ):
            self.check_out(wanted, sample, send_gain)

    def test_what_is_given_is_held(self):
        text = "in a\nout b\nsend a b 8192 post\n"
        self.check([MOST, 4194304], [MOST, MOST], text, [MOST], g={"a": 65535, "b": 65535})
        self.check([LEAST, -4194304], [LEAST, LEAST], text, [LEAST], g={"a": 65535, "b": 65535})
        # A held sum is what the fader takes, not what it was before.
        text = "in a\nout b\nsend a b 65535 post\n"
        self.check([MOST, MOST], [MOST, 4194304], text, [MOST], g={"b": 8192})

    def test_samples_are_held_first(self):
        for sample in (MOST + 1, MOST + 2, 2**24, 2**40, MOST_SIGNED):
            self.check([MOST, 4194304], [MOST, 4194304], "in a\nout b\nsend a b 8192 pre\n", [sample])
        for sample in (LEAST - 1, LEAST - 2, -(2**24), -(2**40), LEAST_SIGNED):
            self.check([LEAST, -4194304], [LEAST, -4194304], "in a\nout b\nsend a b 8192 pre\n", [sample])

    def test_gains_at_their_ends(self):
        for fader, wanted in ((0, 0), (UNIT, 1000), (65535, 4000)):
            self.check([1000], [wanted], "in a\n", [1000], g={"a": fader})
            self.check_out(wanted, 1000, fader)

    def test_late_nodes_do_not_matter(self):
        self.check([100, 0, 40, 120, 120, 250], [100, 0, 40, 120, 120, 250], TEXT + "late a 63\nlate c 5\n", [100, 40])

    def test_desks_of_little(self):
        self.assertEqual([0, 0, 0], self.answer(mix, [], [], [], []))
        self.check([0, 0, 0], [0, 0, 0], "bus a\nout b\ngroup c\nsend a b 65535 pre\n", [])

    def test_crowded_desk(self):
        text = as_bytes(crowded_desk())
        told = self.answer(mix, text, [0] * 20, [UNIT] * 20, [1000, 0, 5, 0, 0, 0, 0, -9])
        sums = told[3:23]
        self.assertEqual([1000, 0, 5, 0, 0, 0, 0, -9], sums[:8])
        # Bus 8 takes in 0 by 56 / 16,384, bus 9 that and bus 8's by 63.
        self.assertEqual([3, 4], sums[8:10])
        self.assertEqual([0, 0], sums[17:19])
        self.assertEqual(sums, told[23:])

    def test_text_of_4096_bytes(self):
        told = self.answer(mix, as_bytes(text_of_length(4096)), [0] * 24, [UNIT] * 24, [1] * 8)
        self.assertEqual([24, 0, 48] + [1] * 8, told[:11])
        self.assertEqual([0] * 4, told[23:27])

    def test_made_desks(self):
        for seed in range(200):
            made = Made(seed)
            chance = random.Random(seed)
            s, g = pick_settings(made, chance)
            ins = pick_samples(made, chance)
            sums, gives = Reference(made, s, g).levels(ins)
            wanted = [len(sums), 0, 2 * len(sums)] + [hold(level) for level in sums + gives]
            with self.subTest(seed=seed):
                self.assertEqual(wanted, self.answer(mix, made.bytes, s, g, ins))

    def test_other_than_as_many_samples_as_ins(self):
        for ins in ([], [0], [0] * 3, [0] * 6, [MOST_SIGNED] * 16):
            for s, g in (([0] * 6, [0] * 6), ([4] * 6, [0] * 6), ([0] * 6, [65536] * 6), ([], []), ([9] * 7, [0])):
                with self.subTest(ins=ins, s=s, g=g):
                    self.assertEqual([-5, 0, 0], self.answer(mix, as_bytes(TEXT), s, g, ins))
        self.assertEqual([-5, 0, 0], self.answer(mix, [], [], [], [0]))
        self.assertEqual([-5, 0, 0], self.answer(mix, [], [0], [], []))

    def test_switches_and_faders_are_refused(self):
        def call(s, g, ins):
            return self.answer(mix, as_bytes(TEXT), s, g, ins)

        self.check_setting_refusals(6, call, [[0, 0], [MOST_SIGNED, LEAST_SIGNED]])
        self.check_setting_refusals(6, call, [[], [0], [0] * 3], unfit_too=False)

    def test_text_is_refused_first(self):
        handed = [([], []), ([0] * 24, [0] * 8), ([MOST_NUMBER] * 24, [0]), ([4], [1])]
        self.check_text_refusals(lambda t, pair: self.answer(mix, t, pair[0], pair[0], pair[1]), handed)


if __name__ == "__main__":
    unittest.main()
