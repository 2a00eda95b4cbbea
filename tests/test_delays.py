"""When it comes to a node, the waits of the sends, the whole delay."""

import unittest

from mixdesks.hall import comes, wait, whole
from tests.desks import MOST_NUMBER, HallCase, as_bytes, crowded_desk, whole_desk
from tests.made import Made
from tests.reference import longest, wait_of, whole_delay

# Fed are a 0, b 1, d 4, e 5, f 6, h 8. Bus c 2 and out i 9 aren't, nor is bus o 7; k 3 is a group.
TEXT = (
    "in a\nin b\nbus c\ngroup k\nbus d\nbus e\nout f\nbus o\nout h\nout i\n"
    "late a 3\nlate c 60\nlate d 10\nlate f 5\nlate i 40\nlate o 20\nmember k a\n"
    "send e f 16384 post\nsend c d 16384 pre\nsend a d 0 pre\nsend b d 1 post\nsend d e 65535 pre\nsend a e 3 post\n"
    "send b f 9 pre\nsend c e 2 pre\nsend a h 7 post\nsend c o 1 pre\nsend o i 3 post\n"
)
COMES = {0: 0, 1: 0, 4: 3, 5: 13, 6: 13, 8: 3}
WAITS = (0, 0, 0, 3, 0, 10, 13, 0, 0, 0, 0)


class ComesTest(HallCase):
    def check(self, wanted, x, text=TEXT):
        with self.subTest(x=x):
            self.assertEqual([wanted, 0, 0], self.answer(comes, x, as_bytes(text)))

    def test_fed_nodes(self):
        for x, wanted in COMES.items():
            self.check(wanted, x)

    def test_nodes_that_are_not_fed(self):
        for x in (2, 7, 9):
            self.check(-4, x)
        self.check(-4, 0, "bus a\n")
        self.check(-4, 0, "out a\nlate a 5\n")
        self.check(-4, 1, "in a\nout b\n")

    def test_ins(self):
        self.check(0, 0, "in a\n")
        self.check(0, 0, "in a\nlate a 63\n")
        self.check(0, 1, "bus b\nin a\nlate a 63\nlate b 5\n")

    def test_own_lateness_is_not_counted(self):
        text = "in a\nbus b\nout c\nsend a b 1 pre\nsend b c 1 pre\n"
        for a in (1, 63):
            for b in (1, 63):
                late = text + f"late a {a}\nlate b {b}\nlate c 63\n"
                self.check(a, 1, late)
                self.check(a + b, 2, late)
        self.check(0, 1, text + "late b 63\n")
        self.check(63, 2, text + "late b 63\n")
        self.check(0, 2, text + "late c 63\n")

    def test_longest_of_several_ways(self):
        text = "in a\nin b\nbus c\nbus d\nout e\nlate a 5\nlate b 9\nlate c 6\nlate d 1\n"
        self.check(9, 4, text + "send a e 1 pre\nsend b e 1 pre\n")
        self.check(9, 4, text + "send b e 1 pre\nsend a e 1 pre\n")
        self.check(11, 4, text + "send c e 1 pre\nsend a c 1 pre\nsend b e 1 pre\n")
        self.check(12, 4, text + "send d e 1 pre\nsend c d 1 pre\nsend a c 1 pre\nsend b d 1 pre\n")

    def test_sends_from_nodes_that_are_not_fed_do_not_count(self):
        text = "bus a\nin b\nbus c\nout d\nlate a 63\nlate b 2\nsend a c 1 pre\nsend b d 1 pre\nsend c d 1 pre\n"
        self.check(2, 3, text)
        self.check(-4, 2, text)
        self.check(0, 2, "bus a\nin b\nbus c\nlate a 63\nsend a c 1 pre\nsend b c 1 pre\n")

    def test_late_by_63_along_the_longest_way(self):
        nodes, names = whole_desk(2)
        row = ["ia", *names["bus"], "oa"]
        text = nodes + "".join(f"send {a} {b} 0 pre\n" for a, b in zip(row, row[1:]))
        text += "".join(f"late {called} 63\n" for called in row)
        for place, x in enumerate([0, *range(8, 17)]):
            self.check(63 * place, x, text)
        self.assertEqual([630, 0, 0], self.answer(whole, as_bytes(text)))

    def test_crowded_desk(self):
        late = "".join(f"late {called} {number}\n" for called, number in (("ia", 1), ("ba", 2), ("bc", 3), ("bh", 50)))
        for x, wanted in ((0, 0), (8, 1), (9, 3), (10, 3), (11, 6), (15, 6), (16, 56), (17, -4), (19, 56), (7, 0)):
            self.check(wanted, x, crowded_desk() + late)

    def test_switched_and_silent_sends_count(self):
        self.check(7, 1, "in a\nout b\nlate a 7\nsend a b 0 post\n")

    def test_group_goes_before_not_fed(self):
        self.check(-1, 3)
        self.check(-1, 0, "group a\n")

    def test_no_such_node(self):
        for x in (10, 24, 2**32, 2**63, MOST_NUMBER):
            self.check(-4, x)
        self.check(-4, 0, "")

    def test_text_is_refused_first(self):
        self.check_text_refusals(lambda t, x: self.answer(comes, x, t), [0, 1, 20, 24, MOST_NUMBER])


class WaitTest(HallCase):
    def check(self, waits, text):
        """That these are the waits of all sends, and there's no more."""
        for i, wanted in enumerate(waits):
            with self.subTest(i=i):
                self.assertEqual([wanted, 0, 0], self.answer(wait, i, as_bytes(text)))
        for i in (len(waits), len(waits) + 1, 48, 2**63, MOST_NUMBER):
            self.assertEqual([-4, 0, 0], self.answer(wait, i, as_bytes(text)))

    def test_sends_of_several_ways(self):
        self.check(WAITS, TEXT)

    def test_one_send_waits_for_nothing(self):
        self.check([0], "in a\nout b\nlate a 63\nlate b 63\nsend a b 1 pre\n")

    def test_late_in_and_late_out(self):
        text = "in a\nin b\nout c\nsend a c 1 pre\nsend b c 1 pre\n"
        self.check([0, 0], text)
        self.check([0, 63], text + "late a 63\n")
        self.check([5, 0], text + "late a 58\nlate b 63\n")
        self.check([0, 0], text + "late c 63\n")

    def test_from_a_node_that_is_not_fed(self):
        text = "in a\nbus b\nout c\nsend b c 1 pre\nsend a c 1 pre\n"
        self.check([0, 0], text + "late a 9\n")
        self.check([0, 0], text + "late b 9\n")
        self.check([0, 0], text + "late a 9\nlate b 3\n")

    def test_wait_for_what_comes_by_further_nodes(self):
        nodes, names = whole_desk(2)
        row = ["ia", *names["bus"], "oa"]
        pairs = list(zip(row, row[1:]))
        text = nodes + "".join(f"send {a} {b} 0 pre\n" for a, b in pairs) + "send ia oa 0 pre\nsend ib oa 1 pre\n"
        text += "".join(f"late {called} 63\n" for called in row)
        self.check([0] * 9 + [504, 567], text)

    def test_crowded_desk(self):
        text = as_bytes(crowded_desk() + "late ba 2\n")
        # The sends are told the last first: 47 goes from 0 to 8, which is late, 46 to 9, 45 to 10.
        for i, wanted in ((0, 0), (47, 0), (46, 2), (45, 2), (48, -4)):
            self.assertEqual([wanted, 0, 0], self.answer(wait, i, text))

    def test_no_sends(self):
        self.check([], "")
        self.check([], "in a\nout b\n")

    def test_text_is_refused_first(self):
        self.check_text_refusals(lambda t, i: self.answer(wait, i, t), [0, 1, 48, MOST_NUMBER])


class WholeTest(HallCase):
    def check(self, wanted, text):
        self.assertEqual([wanted, 0, 0], self.answer(whole, as_bytes(text)))

    def test_of_all_fed_outs_the_most(self):
        self.check(18, TEXT)
        self.check(18, TEXT + "late h 15\n")
        self.check(19, TEXT + "late h 16\n")

    def test_no_fed_out(self):
        self.check(0, "")
        self.check(0, "in a\nlate a 63\n")
        self.check(0, "out a\nlate a 63\n")
        self.check(0, "in a\nbus b\nout c\nlate a 63\nlate b 63\nlate c 63\nsend a b 1 pre\n")
        self.check(0, "bus a\nout b\nlate a 63\nlate b 63\nsend a b 1 pre\n")

    def test_a_late_out(self):
        self.check(63, "in a\nout b\nlate b 63\nsend a b 0 pre\n")
        self.check(64, "in a\nout b\nlate a 1\nlate b 63\nsend a b 0 pre\n")
        self.check(0, "in a\nout b\nsend a b 0 pre\n")

    def test_outs_that_are_not_fed_do_not_count(self):
        self.check(2, "in a\nout b\nout c\nlate a 2\nlate c 63\nsend a b 0 pre\n")

    def test_buses_behind_the_outs_do_not_count(self):
        self.check(2, "in a\nout b\nbus c\nlate a 2\nlate c 63\nsend a b 0 pre\nsend a c 1 pre\n")

    def test_crowded_desk(self):
        self.check(0, crowded_desk())
        self.check(7, crowded_desk() + "late ba 3\nlate od 4\nlate ob 63\n")

    def test_text_is_refused_first(self):
        self.check_text_refusals(lambda t, nothing: self.answer(whole, t), [None])


class MadeDelaysTest(HallCase):
    def test_made_desks(self):
        for seed in range(80):
            made = Made(seed, most=(5, 6, 4, 1))
            with self.subTest(seed=seed):
                for x in made.others():
                    told = longest(made, x)
                    self.assertEqual([-4 if told is None else told, 0, 0], self.answer(comes, x, made.bytes))
                for i in range(len(made.sends)):
                    self.assertEqual([wait_of(made, i), 0, 0], self.answer(wait, i, made.bytes))
                self.assertEqual([whole_delay(made), 0, 0], self.answer(whole, made.bytes))


if __name__ == "__main__":
    unittest.main()
