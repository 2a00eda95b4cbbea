import itertools
import random
import unittest

from mixdesks.hall import loud, mix
from tests.desks import MOST_NUMBER, UNIT, HallCase, as_bytes, crowded_desk, numbers_by_name, whole_desk
from tests.made import IN, Made
from tests.reference import LEAST, MOST, Reference, hold, pick_samples, pick_settings

TEXT = "group k\nin a\nbus b\nout c\ngroup l\nmember k a\nsend a b 16384 post\nsend b c 16384 pre\n"


class LoudTest(HallCase):
    def check(self, wanted, four, called, text, s=None, g=None):
        """That the node can clip, or can't, with these four numbers."""
        names = [line.split(" ")[1] for line in text.splitlines()]
        switches = numbers_by_name(text, 0, **(s or {}))
        faders = numbers_by_name(text, UNIT, **(g or {}))
        told = self.answer(loud, names.index(called), as_bytes(text), switches, faders)
        self.assertEqual([wanted, 0, 4, *four], told, (called, text, s, g))

    def test_just_does_not(self):
        for called in "abc":
            self.check(0, (MOST, MOST, LEAST, LEAST), called, TEXT)
        text = "in a\nin b\nout c\nsend a c 8192 pre\nsend b c 8192 post\n"
        self.check(0, (MOST, MOST, LEAST, LEAST), "c", text)

    def test_by_its_sum_alone(self):
        text = "in a\nout b\nsend a b 16385 pre\n"
        self.check(1, (8389119, 4194304, -8389120, -4194304), "b", text, g={"b": 8192})
        self.check(1, (8389119, 0, -8389120, 0), "b", text, g={"b": 0})
        self.check(0, (MOST, MOST, LEAST, LEAST), "a", text)

    def test_by_what_it_gives_alone(self):
        self.check(1, (MOST, 8389119, LEAST, -8389120), "a", TEXT, g={"a": 16385})
        self.check(1, (MOST, 33553916, LEAST, -33553920), "c", TEXT, g={"c": 65535})
        self.check(1, (MOST, 16777214, LEAST, -16777216), "a", TEXT, g={"k": 32768})

    def test_only_with_all_ins_at_the_most(self):
        # Half of 8,388,607 is rounded up to the even one, twice that is one too much.
        text = "in a\nbus b\nbus c\nout d\nsend a b 8192 pre\nsend a c 8192 pre\nsend b d 16384 pre\nsend c d 16384 pre\n"
        self.check(1, (MOST + 1, MOST, LEAST, LEAST), "d", text)
        self.check(0, (4194304, 4194304, -4194304, -4194304), "b", text)
        text = "in a\nbus b\nsend a b 8192 pre\n"
        self.check(1, (4194304, MOST + 1, -4194304, LEAST), "b", text, g={"b": 32768})

    def test_only_with_all_ins_at_the_least(self):
        text = "in a\nbus b\nout c\nsend a b 8375 pre\nsend b c 32052 pre\n"
        self.check(1, (MOST, MOST, LEAST - 1, LEAST), "c", text)
        self.check(1, (4287999, MOST, -4288000, LEAST - 1), "b", text, g={"b": 32052})

    def test_what_comes_from_others_is_held_before(self):
        text = "in a\nbus b\nout c\nsend a b 65535 pre\nsend b c 16384 pre\n"
        self.check(1, (33553916, MOST, -33553920, LEAST), "b", text)
        self.check(0, (MOST, MOST, LEAST, LEAST), "c", text)
        text = "in a\nout c\nsend a c 16384 post\n"
        self.check(0, (MOST, MOST, LEAST, LEAST), "c", text, g={"a": 65535})

    def test_what_it_gives_is_of_the_held_sum(self):
        text = "in a\nout b\nsend a b 65535 pre\n"
        self.check(1, (33553916, 8389119, -33553920, -8389120), "b", text, g={"b": 16385})

    def test_node_that_is_not_live(self):
        self.check(0, (MOST, 0, LEAST, 0), "a", TEXT, s={"a": 1}, g={"a": 65535})
        self.check(0, (MOST, 0, LEAST, 0), "a", TEXT, s={"k": 1}, g={"a": 65535})
        self.check(0, (0, 0, 0, 0), "b", TEXT, s={"a": 1}, g={"b": 65535})
        text = "in a\nout b\nout c\nsend a b 65535 pre\nsend a c 16384 pre\n"
        self.check(1, (33553916, 0, -33553920, 0), "b", text, s={"b": 1})
        self.check(1, (33553916, 0, -33553920, 0), "b", text, s={"c": 2})
        self.check(1, (33553916, MOST, -33553920, LEAST), "b", text, s={"a": 2})

    def test_sends_from_a_node_that_is_not_live(self):
        text = "in a\nin b\nout c\nsend a c 65535 pre\nsend b c 16384 pre\n"
        self.check(1, (41942523, MOST, -41942528, LEAST), "c", text)
        self.check(0, (MOST, MOST, LEAST, LEAST), "c", text, s={"a": 1})

    def test_gains_of_0(self):
        self.check(0, (MOST, 0, LEAST, 0), "a", TEXT, g={"a": 0})
        self.check(0, (0, 0, 0, 0), "b", TEXT, g={"a": 0})
        self.check(0, (0, 0, 0, 0), "b", "in a\nout b\nsend a b 0 pre\n", g={"b": 65535})

    def test_without_ins(self):
        text = "bus a\nout b\nsend a b 65535 pre\n"
        self.check(0, (0, 0, 0, 0), "b", text, g={"a": 65535, "b": 65535})

    def test_as_loud_as_it_can_be(self):
        nodes, names = whole_desk(2)
        text = nodes + "".join(f"send {called} oa 65535 pre\n" for called in names["in"] + names["bus"])
        text += "".join(f"send {called} ba 65535 post\n" for called in names["in"])
        text += "".join(f"send {called} bb 65535 post\n" for called in names["in"])
        self.check(1, (10 * MOST * 65535 // UNIT, 33553916, 10 * LEAST * 65535 // UNIT, -33553920), "oa", text,
                   g={"oa": 65535})

    def test_late_nodes_do_not_matter(self):
        self.check(0, (MOST, MOST, LEAST, LEAST), "c", TEXT + "late a 63\nlate b 1\n")

    def test_crowded_desk(self):
        text = as_bytes(crowded_desk())
        self.assertEqual([0, 0, 4, 28672, 28672, -28672, -28672],
                         self.answer(loud, 8, text, [1] + [0] * 19, [UNIT] * 20))

    def test_made_desks(self):
        for seed in range(100):
            made = Made(seed)
            s, g = pick_settings(made, random.Random(seed))
            ins = len(made.of_kinds(IN))
            reference = Reference(made, s, g)
            most, least = reference.levels([MOST] * ins), reference.levels([LEAST] * ins)
            for x in made.others():
                four = [most[0][x], most[1][x], least[0][x], least[1][x]]
                wanted = [int(any(hold(level) != level for level in four)), 0, 4, *four]
                with self.subTest(seed=seed, x=x):
                    self.assertEqual(wanted, self.answer(loud, x, made.bytes, s, g))

    def test_no_samples_clip_a_node_that_cannot(self):
        for seed in range(40):
            made = Made(seed, most=(3, 4, 2, 2))
            chance = random.Random(seed)
            s, g = pick_settings(made, chance)
            reference = Reference(made, s, g)
            quiet = [x for x in made.others() if self.answer(loud, x, made.bytes, s, g)[0] == 0]
            ends = [list(ins) for ins in itertools.product((LEAST, MOST), repeat=len(made.of_kinds(IN)))]
            for ins in ends + [pick_samples(made, chance) for _ in range(10)]:
                sums, gives = reference.levels(ins)
                held = self.answer(mix, made.bytes, s, g, ins)[3:]
                for x in quiet:
                    self.assertEqual([sums[x], gives[x]], [held[x], held[len(s) + x]], (made.text, s, g, ins, x))

    def test_group_and_no_such_node(self):
        for x in (0, 4):
            self.assertEqual([-1, 0, 0], self.answer(loud, x, as_bytes(TEXT), [3] * 5, [65535] * 5))
        for x in (5, 24, 2**63, MOST_NUMBER):
            self.assertEqual([-4, 0, 0], self.answer(loud, x, as_bytes(TEXT), [3] * 5, [65535] * 5))
        self.assertEqual([-4, 0, 0], self.answer(loud, 0, [], [], []))

    def test_switches_and_faders_are_refused_before_the_node(self):
        self.check_setting_refusals(5, lambda s, g, x: self.answer(loud, x, as_bytes(TEXT), s, g), [0, 1, 5, MOST_NUMBER])
        self.assertEqual([-5, 0, 0], self.answer(loud, 0, [], [], [0]))

    def test_text_is_refused_first(self):
        handed = [(0, []), (24, [0] * 24), (0, [MOST_NUMBER] * 24), (MOST_NUMBER, [4])]
        self.check_text_refusals(lambda t, pair: self.answer(loud, pair[0], t, pair[1], pair[1]), handed)


if __name__ == "__main__":
    unittest.main()
