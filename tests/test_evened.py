"""The outs' last waits, how long a way is with the waits, the slow ways."""

import unittest

from mixdesks.hall import last, long, slow, whole
from tests.desks import MOST_NUMBER, HallCase, as_bytes, crowded_desk, text_of_length, whole_desk
from tests.made import OUT, Made
from tests.reference import bare_length, longest, wait_of, ways_from_ins, whole_delay

# It comes to d 4 at 3, to e 5 at 13, to f 6 at 13, to h 8 at 3. Bus c 2, bus o 7 and out i 9 aren't fed.
TEXT = (
    "in a\nin b\nbus c\ngroup k\nbus d\nbus e\nout f\nbus o\nout h\nout i\n"
    "late a 3\nlate c 60\nlate d 10\nlate f 5\nlate i 40\nlate o 20\nmember k a\n"
    "send e f 16384 post\nsend c d 16384 pre\nsend a d 0 pre\nsend b d 1 post\nsend d e 65535 pre\nsend a e 3 post\n"
    "send b f 9 pre\nsend c e 2 pre\nsend a h 7 post\nsend c o 1 pre\nsend o i 3 post\n"
)
FAR = (10, 24, 2**32, 2**63, MOST_NUMBER)


class LastTest(HallCase):
    def check(self, wanted, o, text=TEXT):
        with self.subTest(o=o):
            self.assertEqual([wanted, 0, 0], self.answer(last, o, as_bytes(text)))

    def test_fed_outs(self):
        self.check(0, 6)
        self.check(15, 8)
        self.check(0, 8, TEXT + "late h 20\n")
        self.check(5, 6, TEXT + "late h 20\n")
        self.check(0, 8, TEXT + "late h 15\n")
        self.check(0, 6, TEXT + "late h 15\n")

    def test_out_that_is_not_fed(self):
        self.check(0, 9)
        self.check(0, 0, "out a\nlate a 5\n")
        self.check(0, 2, "in a\nout b\nout c\nlate b 63\nlate c 7\nsend a b 1 pre\n")

    def test_one_out(self):
        self.check(0, 1, "in a\nout b\nlate a 7\nlate b 9\nsend a b 1 pre\n")

    def test_four_outs(self):
        text = "in a\nbus b\nout c\nout d\nout e\nout f\nlate a 1\nlate b 63\nlate d 2\nlate e 63\n"
        text += "send a c 1 pre\nsend a d 1 pre\nsend a b 1 pre\nsend b e 1 pre\nsend b f 1 pre\n"
        for o, wanted in ((2, 126), (3, 124), (4, 0), (5, 63)):
            self.check(wanted, o, text)

    def test_no_out(self):
        for o in (0, 1, 2, 3, 4, 5, 7):
            self.check(-1, o)
        for o in range(3):
            self.check(-1, o, "in a\nbus b\ngroup c\nsend a b 1 pre\n")

    def test_no_such_node(self):
        for o in FAR:
            self.check(-4, o)
        self.check(-4, 0, "")
        self.check(-4, 3, "in a\nbus b\ngroup c\nsend a b 1 pre\n")

    def test_crowded_desk(self):
        text = crowded_desk() + "late ba 3\nlate oa 1\nlate ob 63\nlate od 6\n"
        for o, wanted in ((16, 5), (17, 0), (18, 0), (19, 0), (15, -1), (20, -4)):
            self.check(wanted, o, text)

    def test_text_is_refused_first(self):
        self.check_text_refusals(lambda t, o: self.answer(last, o, t), [0, 1, 16, 24, MOST_NUMBER])


class LongTest(HallCase):
    def check(self, wanted, nodes, text=TEXT):
        with self.subTest(nodes=nodes):
            self.assertEqual([wanted, 0, 0], self.answer(long, as_bytes(text), list(nodes)))

    def test_ways_from_ins_with_their_waits(self):
        for nodes, wanted in (
            ((0, 4), 3), ((1, 4), 3), ((0, 5), 13), ((0, 4, 5), 13), ((1, 4, 5), 13), ((1, 6), 13),
            ((0, 5, 6), 13), ((0, 4, 5, 6), 13), ((1, 4, 5, 6), 13), ((0, 8), 3),
        ):
            self.check(wanted, nodes)

    def test_way_of_one_node(self):
        for i in (0, 1, 2, 4, 5, 6, 7, 8, 9):
            self.check(0, [i])

    def test_way_that_begins_at_no_in(self):
        self.check(10, (4, 5))
        self.check(10, (4, 5, 6))
        self.check(0, (5, 6))
        # The sends of a bus that isn't fed don't wait.
        self.check(60, (2, 4))
        self.check(70, (2, 4, 5))
        self.check(60, (2, 5, 6))
        self.check(60, (2, 7))
        self.check(80, (2, 7, 9))
        self.check(20, (7, 9))

    def test_last_nodes_own_lateness_is_not_counted(self):
        text = "in a\nbus b\nout c\nlate a 1\nlate b 20\nlate c 63\nsend a b 1 pre\nsend b c 1 pre\n"
        self.check(1, (0, 1), text)
        self.check(21, (0, 1, 2), text)
        self.check(20, (1, 2), text)

    def test_waits_are_counted(self):
        text = "in a\nin b\nbus c\nout d\nlate a 7\nlate c 9\nsend a c 1 pre\nsend b c 1 pre\nsend c d 1 pre\nsend b d 1 pre\n"
        self.check(7, (1, 2), text)
        self.check(16, (1, 2, 3), text)
        self.check(16, (1, 3), text)

    def test_longest_way(self):
        nodes, names = whole_desk(2)
        row = ["ia", *names["bus"], "oa"]
        text = nodes + "".join(f"send {a} {b} 0 pre\n" for a, b in zip(row, row[1:])) + "send ib bh 1 post\n"
        text += "".join(f"late {called} 63\n" for called in row)
        self.check(567, (0, *range(8, 17)), text)
        self.check(567, (1, 15, 16), text)

    def test_nothing_is_no_way(self):
        self.check(-1, ())
        self.check(-1, (), "")

    def test_groups_and_no_such_nodes(self):
        for nodes in ((3,), (3, 3), (0, 3), (3, 4), (0, 3, 4), (0, 4, 5, 6, 3)):
            self.check(-1, nodes)
        for far in FAR:
            for nodes in ((far,), (0, far), (far, 0), (0, 4, far), (far, 4, 5), (far, far), (0, 4, far, 5)):
                self.check(-1, nodes)
        self.check(-1, (0,), "")
        self.check(-1, (0,), "group a\n")
        self.check(-1, (1,), "in a\n")
        self.check(-1, [MOST_NUMBER] * 40)

    def test_nodes_without_a_send_between_them(self):
        for nodes in ((0, 1), (0, 6), (4, 6), (0, 4, 6), (0, 5, 4), (4, 0), (6, 5), (5, 8), (2, 6), (0, 4, 5, 6, 8)):
            self.check(-1, nodes)

    def test_node_twice(self):
        for nodes in ((0, 0), (4, 4), (0, 4, 4, 5), (0, 4, 0, 4), (0, 0, 4), (0, 4, 5, 5), [0] * 40, [0, 4] * 20):
            self.check(-1, nodes)

    def test_text_of_4096_bytes(self):
        self.check(0, (5, 15), text_of_length(4096))
        self.check(-1, (6, 15), text_of_length(4096))

    def test_text_is_refused_first(self):
        handed = [[], [0], [0, 8], [20], [24], [MOST_NUMBER] * 40]
        self.check_text_refusals(lambda t, nodes: self.answer(long, t, nodes), handed)


class SlowTest(HallCase):
    def check(self, nodes, x, text=TEXT):
        with self.subTest(x=x):
            self.assertEqual([len(nodes), 0, len(nodes), *nodes], self.answer(slow, x, as_bytes(text)))

    def check_refused(self, wanted, x, text=TEXT):
        with self.subTest(x=x):
            self.assertEqual([wanted, 0, 0], self.answer(slow, x, as_bytes(text)))

    def test_fed_nodes(self):
        for nodes in ([0, 4], [0, 4, 5], [0, 4, 5, 6], [0, 8]):
            self.check(nodes, nodes[-1])

    def test_ins(self):
        self.check([0], 0)
        self.check([1], 1)
        self.check([1], 1, "bus a\nin b\nlate b 63\n")

    def test_first_of_several_from_one_in(self):
        text = "in a\nbus b\nbus c\nbus d\nout e\nlate b 5\nlate d 5\n"
        text += "send d e 1 pre\nsend a d 1 pre\nsend c e 1 pre\nsend a c 1 pre\nsend b e 1 pre\nsend a b 1 pre\n"
        self.check([0, 1, 4], 4, text)
        self.check([0, 2, 4], 4, text + "late c 6\n")
        self.check([0, 1, 4], 4, text + "late c 5\n")
        self.check([0, 1, 2, 4], 4, text + "late c 1\nsend b c 1 pre\n")
        self.check([0, 1, 3, 4], 4, text + "late c 5\nsend b d 1 pre\n")

    def test_longer_row_of_nodes_may_go_first(self):
        text = "in a\nbus b\nbus c\nout d\nlate c 5\nsend a c 1 pre\nsend c d 1 pre\nsend a b 1 pre\nsend b c 1 pre\n"
        self.check([0, 1, 2, 3], 3, text)
        self.check([0, 1, 2], 2, text)

    def test_nothing_is_late(self):
        text = "in a\nbus b\nout c\nsend a c 1 pre\nsend b c 1 pre\nsend a b 1 pre\n"
        self.check([0, 1, 2], 2, text)

    def test_first_of_several_from_different_ins(self):
        text = "in a\nin b\nin c\nbus d\nout e\nsend c d 1 pre\nsend b d 1 pre\nsend a d 1 pre\nsend d e 1 pre\n"
        self.check([0, 3, 4], 4, text)
        self.check([1, 3, 4], 4, text + "late b 1\nlate c 1\n")
        self.check([2, 3, 4], 4, text + "late b 1\nlate c 2\n")
        # A later in's way may have lesser nodes behind the in.
        text = "in a\nbus b\nin c\nbus d\nout e\nlate b 2\nlate d 2\nsend a d 1 pre\nsend c d 1 pre\nsend d e 1 pre\n"
        self.check([0, 3, 4], 4, text)
        self.check([0, 1, 4], 4, text + "send a b 1 pre\nsend b e 1 pre\n")

    def test_buses_told_ahead_of_the_ins(self):
        text = "bus a\nin b\nbus c\nout d\nlate a 63\nlate b 1\nsend a c 1 pre\nsend b c 1 pre\nsend c d 1 pre\n"
        self.check([1, 2], 2, text)
        self.check([1, 2, 3], 3, text)

    def test_longest_way(self):
        nodes, names = whole_desk(2)
        row = ["ia", *names["bus"], "oa"]
        text = nodes + "".join(f"send {a} {b} 0 pre\n" for a, b in zip(row, row[1:])) + "send ia oa 1 post\n"
        text += "".join(f"late {called} 63\n" for called in row)
        self.check([0, *range(8, 17)], 16, text)

    def test_crowded_desk(self):
        self.check([0, *range(8, 17)], 16, crowded_desk())
        self.check([0, *range(8, 16), 19], 19, crowded_desk())
        self.check([1, *range(8, 17)], 16, crowded_desk() + "late ib 2\nlate ia 1\n")
        self.check([7, 15, 16], 16, crowded_desk() + "late ih 5\n")
        self.check([0, 8, 9, 10], 10, crowded_desk() + "late ih 5\n")
        self.check([0, 8, 9, 10, 11, 12, 13, 14, 15, 16], 16, crowded_desk() + "late bc 4\nlate bf 63\n")

    def test_not_fed(self):
        for x in (2, 7, 9):
            self.check_refused(-4, x)
        self.check_refused(-4, 0, "bus a\n")

    def test_group(self):
        self.check_refused(-1, 3)
        self.check_refused(-1, 0, "group a\n")

    def test_no_such_node(self):
        for x in FAR:
            self.check_refused(-4, x)
        self.check_refused(-4, 0, "")

    def test_text_is_refused_first(self):
        self.check_text_refusals(lambda t, x: self.answer(slow, x, t), [0, 1, 20, 24, MOST_NUMBER])


class MadeEvenedTest(HallCase):
    """Against ways that are found one by one, on made desks."""

    def made_desks(self, count):
        return [Made(3000 + seed, most=(5, 6, 4, 1)) for seed in range(count)]

    def test_last(self):
        for made in self.made_desks(60):
            for o in made.of_kinds(OUT):
                comes = longest(made, o)
                wanted = 0 if comes is None else whole_delay(made) - comes - made.late[o]
                self.assertEqual([wanted, 0, 0], self.answer(last, o, made.bytes), made.text)
            self.assertEqual([whole_delay(made), 0, 0], self.answer(whole, made.bytes))

    def test_long(self):
        for made in self.made_desks(40):
            waits = {told[:2]: wait_of(made, i) for i, told in enumerate(made.sends)}
            for a in made.others():
                for b in made.others():
                    for nodes in made.ways(a, b)[:6]:
                        wanted = bare_length(made, nodes) + sum(waits[pair] for pair in zip(nodes, nodes[1:]))
                        self.assertEqual([wanted, 0, 0], self.answer(long, made.bytes, nodes), made.text)

    def test_slow(self):
        for made in self.made_desks(60):
            for x in made.others():
                found = ways_from_ins(made, x)
                equal = [nodes for nodes in found if bare_length(made, nodes) == longest(made, x)]
                wanted = [len(min(equal)), 0, len(min(equal)), *min(equal)] if equal else [-4, 0, 0]
                self.assertEqual(wanted, self.answer(slow, x, made.bytes), made.text)


if __name__ == "__main__":
    unittest.main()
