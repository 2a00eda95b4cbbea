import unittest

from mixdesks.hall import judge
from tests.desks import FULL, HallCase, as_bytes, letter_name, text_of_length, whole_desk


class JudgeTest(HallCase):
    def judged(self, text):
        return self.answer(judge, as_bytes(text))

    def check_desk(self, text, *counts):
        self.assertEqual([0, 0, 5, *counts], self.judged(text))

    def test_desk_with_all_kinds(self):
        self.check_desk(FULL, 3, 2, 2, 2, 4)

    def test_desk_of_nothing(self):
        self.check_desk("", 0, 0, 0, 0, 0)

    def test_one_node_of_each_kind_alone(self):
        self.check_desk("in a\n", 1, 0, 0, 0, 0)
        self.check_desk("bus a\n", 0, 1, 0, 0, 0)
        self.check_desk("out a\n", 0, 0, 1, 0, 0)
        self.check_desk("group a\n", 0, 0, 0, 1, 0)

    def test_each_setting_alone(self):
        self.check_desk("out a\nsafe a\n", 0, 0, 1, 0, 0)
        self.check_desk("bus a\nlate a 9\n", 0, 1, 0, 0, 0)
        self.check_desk("in a\ngroup b\nmember b a\n", 1, 0, 0, 1, 0)
        self.check_desk("in a\nout b\nsend a b 5 post\n", 1, 0, 1, 0, 1)

    def test_settings_in_any_order(self):
        nodes = "in a\nbus b\ngroup c\n"
        settings = ["send a b 1 pre\n", "member c a\n", "late a 1\n", "safe a\n"]
        for turn in range(4):
            self.check_desk(nodes + "".join(settings[turn:] + settings[:turn]), 1, 1, 0, 1, 1)

    def test_names_of_1_and_16_letters(self):
        self.check_desk("in a\nin z\nbus abcdefghijklmnop\nbus qrstuvwxyzqrstuv\n", 2, 2, 0, 0, 0)

    def test_names_that_only_begin_like_words(self):
        self.check_desk("in ins\nin i\nbus bu\nout prea\ngroup pos\nsafe ins\n", 2, 1, 1, 1, 0)

    def test_late_at_its_bounds(self):
        for late in ("1", "9", "10", "63"):
            self.check_desk(f"in a\nlate a {late}\n", 1, 0, 0, 0, 0)

    def test_gain_at_its_bounds_and_of_all_lengths(self):
        for gain in ("0", "1", "9", "10", "99", "100", "999", "1000", "9999", "10000", "16384", "65535"):
            self.check_desk(f"in a\nout b\nsend a b {gain} pre\n", 1, 0, 1, 0, 1)

    def test_nodes_that_may_be_safe_or_late(self):
        for kind in ("in", "bus", "out"):
            for setting in ("safe a", "late a 5", "member g a"):
                with self.subTest(kind=kind, setting=setting):
                    self.assertEqual(0, self.judged(f"{kind} a\ngroup g\n{setting}\n")[0])

    def test_sends_that_may_be(self):
        for sender in ("in", "bus"):
            for target in ("bus", "out"):
                with self.subTest(sender=sender, target=target):
                    self.assertEqual(0, self.judged(f"{sender} a\n{target} b\nsend a b 1 pre\n")[0])

    def test_what_is_said_of_others_is_not_said_twice(self):
        self.check_desk("in a\nin b\nsafe a\nlate a 1\nsafe b\nlate b 1\n", 2, 0, 0, 0, 0)
        self.check_desk("in a\nin b\ngroup c\ngroup d\nmember c a\nmember c b\nmember d a\nmember d b\n", 2, 0, 0, 2, 0)
        self.check_desk("in a\nbus b\nout c\nsend a b 1 pre\nsend a c 1 pre\nsend b c 1 pre\n", 1, 1, 1, 0, 3)

    def test_a_member_is_no_send(self):
        self.check_desk("group g\nin a\nbus b\nmember g a\nmember g b\nsend a b 1 pre\n", 1, 1, 0, 1, 1)

    def test_as_many_as_there_may_be(self):
        nodes, names = whole_desk(2)
        self.check_desk(nodes, 8, 8, 4, 4, 0)
        sends = [f"send {a} {b} 1 pre\n" for a in names["in"] for b in names["bus"]][:48]
        self.check_desk(nodes + "".join(sends), 8, 8, 4, 4, 48)

    def test_members_have_no_bound(self):
        nodes, names = whole_desk(2)
        others = names["in"] + names["bus"] + names["out"]
        members = "".join(f"member {group} {other}\n" for group in names["group"] for other in others)
        self.check_desk(nodes + members, 8, 8, 4, 4, 0)

    def test_one_too_many_of_each(self):
        for kind, most in (("in", 8), ("bus", 8), ("out", 4), ("group", 4)):
            lines = "".join(f"{kind} {letter_name('n', k, 2)}\n" for k in range(most))
            with self.subTest(kind=kind):
                self.assertEqual(0, self.judged(lines)[0])
                self.assertEqual([-6, 0, 2, 4, len(lines)], self.judged(lines + f"{kind} last\n"))
        nodes, names = whole_desk(2)
        sends = [f"send {a} {b} 1 pre\n" for a in names["in"] for b in names["bus"]]
        text = nodes + "".join(sends[:48])
        self.assertEqual([-6, 0, 2, 4, len(text)], self.judged(text + sends[48]))

    def test_text_of_4096_bytes(self):
        self.check_desk(text_of_length(4095), 8, 8, 4, 4, 48)
        self.check_desk(text_of_length(4096), 8, 8, 4, 4, 48)

    def test_text_too_long(self):
        self.assertEqual([-2, 0, 0], self.judged(text_of_length(4097)))
        self.check_text_refusals(lambda t, nothing: self.answer(judge, t), [None])


if __name__ == "__main__":
    unittest.main()
