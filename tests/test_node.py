import unittest

from mixdesks.hall import node
from tests.desks import FULL, KIND_WORDS, MOST_NUMBER, HallCase, as_bytes, text_of_length, whole_desk


class NodeTest(HallCase):
    def told(self, i, text):
        return self.answer(node, i, as_bytes(text))

    def check_node(self, wanted, i, text):
        self.assertEqual([0, 0, 4, *wanted], self.told(i, text))

    def test_nodes_of_all_kinds(self):
        wanted = [
            (0, 0, 0, 0),
            (0, 1, 0, 7),
            (3, 0, 0, 0),
            (1, 0, 1, 63),
            (2, 0, 0, 1),
            (0, 2, 0, 0),
            (1, 1, 0, 0),
            (3, 1, 0, 0),
            (2, 1, 1, 0),
        ]
        for number in range(9):
            self.check_node(wanted[number], number, FULL)

    def test_all_nodes_of_a_whole_desk(self):
        wanted = [(kind, place, 0, 0) for kind, most in enumerate((8, 8, 4, 4)) for place in range(most)]
        nodes, _ = whole_desk()
        for number in range(24):
            self.check_node(wanted[number], number, nodes)
            self.check_node(wanted[number], number, text_of_length(4096))

    def test_each_kind_alone(self):
        for kind, word in enumerate(KIND_WORDS):
            self.check_node((kind, 0, 0, 0), 0, f"{word} a\n")

    def test_each_late(self):
        for late in range(1, 64):
            text = f"in a\nbus b\nlate b {late}\n"
            self.check_node((0, 0, 0, 0), 0, text)
            self.check_node((1, 0, 0, late), 1, text)

    def test_safe_and_late_of_each_kind(self):
        for kind, word in enumerate(KIND_WORDS[:3]):
            text = f"group g\n{word} a\n{word} b\n"
            self.check_node((kind, 1, 1, 0), 2, text + "safe b\n")
            self.check_node((kind, 0, 0, 0), 1, text + "safe b\n")
            self.check_node((kind, 1, 1, 40), 2, text + "safe b\nlate b 40\n")
            self.check_node((kind, 1, 1, 40), 2, text + "late b 40\nsafe b\n")
            self.check_node((kind, 1, 0, 40), 2, text + "safe a\nlate b 40\n")

    def test_sends_and_members_change_nothing(self):
        text = "in a\nout b\ngroup g\nmember g a\nsend a b 30 pre\n"
        self.check_node((0, 0, 0, 0), 0, text)
        self.check_node((2, 0, 0, 0), 1, text)
        self.check_node((3, 0, 0, 0), 2, text)

    def test_a_groups_members_leave_it_as_it_is(self):
        text = "in a\ngroup g\nmember g a\nsafe a\nlate a 3\n"
        self.check_node((0, 0, 1, 3), 0, text)
        self.check_node((3, 0, 0, 0), 1, text)

    def test_no_such_node(self):
        for i in (9, 10, 24, 2**32, 2**63, 2**64 - 9, MOST_NUMBER):
            with self.subTest(i=i):
                self.assertEqual([-4, 0, 0], self.told(i, FULL))
        nodes, _ = whole_desk()
        self.assertEqual([-4, 0, 0], self.told(24, nodes))

    def test_desk_of_nothing(self):
        for i in (0, 1, MOST_NUMBER):
            self.assertEqual([-4, 0, 0], self.told(i, ""))

    def test_text_is_refused_first(self):
        self.check_text_refusals(lambda t, i: self.answer(node, i, t), [0, 1, 24, MOST_NUMBER])


if __name__ == "__main__":
    unittest.main()
