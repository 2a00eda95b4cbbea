import unittest

from mixdesks.hall import name
from tests.desks import FULL, MOST_NUMBER, HallCase, as_bytes, text_of_length, whole_desk


class NameTest(HallCase):
    def named(self, i, text):
        return self.answer(name, i, as_bytes(text))

    def check_name(self, wanted, i, text):
        self.assertEqual([len(wanted), len(wanted), *as_bytes(wanted), 0], self.named(i, text))

    def test_nodes_of_all_kinds(self):
        names = ["voice", "drum", "band", "room", "left", "spare", "hall", "all", "right"]
        for number, wanted in enumerate(names):
            self.check_name(wanted, number, FULL)

    def test_answer_as_it_stands(self):
        self.assertEqual([2, 2, 97, 122, 0], self.named(0, "bus az\n"))

    def test_names_of_1_and_16_letters(self):
        text = "out q\ngroup abcdefghijklmnop\n"
        self.check_name("q", 0, text)
        self.check_name("abcdefghijklmnop", 1, text)

    def test_all_nodes_of_a_whole_desk(self):
        _, names = whole_desk()
        for number, wanted in enumerate(names["in"] + names["bus"] + names["out"] + names["group"]):
            self.check_name(wanted, number, text_of_length(4096))

    def test_no_such_node(self):
        for i in (9, 10, 24, 2**32, 2**63, 2**64 - 9, MOST_NUMBER):
            with self.subTest(i=i):
                self.assertEqual([-4, 0, 0], self.named(i, FULL))
        nodes, _ = whole_desk()
        self.assertEqual([-4, 0, 0], self.named(24, nodes))

    def test_desk_of_nothing(self):
        for i in (0, 1, MOST_NUMBER):
            self.assertEqual([-4, 0, 0], self.named(i, ""))

    def test_text_is_refused_first(self):
        self.check_text_refusals(lambda t, i: self.answer(name, i, t), [0, 1, 24, MOST_NUMBER])


if __name__ == "__main__":
    unittest.main()
