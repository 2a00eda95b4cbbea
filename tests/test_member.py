import unittest

from mixdesks.hall import member
from tests.desks import FULL, MOST_NUMBER, HallCase, as_bytes, whole_desk

# FULL's groups are nodes 2 (of drum 1) and 7 (of drum 1, room 3).
MEMBERS = ((2, 1), (7, 1), (7, 3))
GROUPS = (2, 7)
OTHERS = (0, 1, 3, 4, 5, 6, 8)
FAR = (9, 24, 2**32, 2**63, 2**64 - 8, MOST_NUMBER)


class MemberTest(HallCase):
    def told(self, group, i, text=FULL):
        return self.answer(member, group, i, as_bytes(text))

    def check(self, wanted, group, i, text=FULL):
        with self.subTest(group=group, i=i):
            self.assertEqual([wanted, 0, 0], self.told(group, i, text))

    def test_each_group_with_each_node(self):
        for group in GROUPS:
            for i in OTHERS:
                self.check(1 if (group, i) in MEMBERS else 0, group, i)

    def test_group_told_behind_and_before_its_members(self):
        text = "in a\ngroup g\nout b\nmember g b\nmember g a\n"
        self.check(1, 1, 0, text)
        self.check(1, 1, 2, text)

    def test_sends_make_no_members(self):
        text = "in a\nbus b\ngroup g\nmember g a\nsend a b 1 pre\n"
        self.check(1, 2, 0, text)
        self.check(0, 2, 1, text)

    def test_all_members_of_a_whole_desk(self):
        nodes, names = whole_desk(2)
        others = names["in"] + names["bus"] + names["out"]
        lines = [f"member {group} {called}\n" for group in names["group"] for called in others]
        for group in range(20, 24):
            for i in range(20):
                self.check(1, group, i, nodes + "".join(lines))
                left_out = lines[: 20 * (group - 20) + i] + lines[20 * (group - 20) + i + 1:]
                self.check(0, group, i, nodes + "".join(left_out))

    def test_no_group_at_group(self):
        for group in OTHERS:
            for i in OTHERS + GROUPS + FAR:
                self.check(-1, group, i)

    def test_group_at_i(self):
        for group in GROUPS + OTHERS + FAR:
            for i in GROUPS:
                self.check(-1, group, i)

    def test_no_such_node(self):
        for far in FAR:
            for group in GROUPS:
                self.check(-4, group, far)
            for i in OTHERS + FAR:
                self.check(-4, far, i)

    def test_desk_of_nothing(self):
        for group in (0, MOST_NUMBER):
            for i in (0, MOST_NUMBER):
                self.check(-4, group, i, "")

    def test_text_is_refused_first(self):
        handed = [(0, 0), (1, 0), (0, 1), (22, 0), (MOST_NUMBER, 0), (0, MOST_NUMBER), (MOST_NUMBER, MOST_NUMBER)]
        self.check_text_refusals(lambda t, pair: self.answer(member, *pair, t), handed)


if __name__ == "__main__":
    unittest.main()
