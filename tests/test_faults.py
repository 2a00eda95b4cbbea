"""The faults of a text, each with its place: in a case's text the sign ^ stands right before it."""

import unittest

from mixdesks.hall import judge
from tests.desks import KIND_WORDS, OTHER_WORDS, HallCase, as_bytes, letter_name, split_mark, whole_desk

# a in 0, b bus 1, c out 2, d bus 3, g group 4, h group 5
NODES = "in a\nbus b\nout c\nbus d\ngroup g\ngroup h\n"


class FaultTest(HallCase):
    def check(self, kind, marked):
        text, place = split_mark(marked)
        with self.subTest(text=marked):
            self.assertEqual([-6, 0, 2, kind, place], self.answer(judge, text))

    def check_setting(self, kind, marked):
        self.check(kind, NODES + marked)

    def test_wrong_first_word(self):
        for word in ("x", "ins", "i", "In", "IN", "pre", "post", "0", "\t", "\r", "in\tx", "\0", "\xff", "inn"):
            self.check(1, f"^{word} a\n")
            self.check(1, f"in a\n^{word} b\n")
            self.check_setting(1, f"safe a\n^{word} b\n")

    def test_first_word_without_line(self):
        for word in KIND_WORDS + OTHER_WORDS[:4]:
            self.check_setting(1, f"{word}^")
            self.check_setting(1, f"{word}^\n")
            self.check_setting(1, f"{word} ^")
            self.check_setting(1, f"{word} ^\n")
            self.check_setting(1, f"{word} ^ x\n")

    def test_blank_or_line_end_at_a_lines_start(self):
        for rest in (" in e\n", "\nin e\n", "\n", " ", " \n"):
            self.check(1, f"^{rest}")
            self.check(1, f"in a\n^{rest}")
            self.check_setting(1, f"safe a\n^{rest}")

    def test_wrong_form_of_a_nodes_name(self):
        for word in ("A", "aB", "a1", "1", "a-", "`", "{", "a\t", "a\r", "\xe4", "\0", "a" * 17, "a" * 40):
            for kind in KIND_WORDS:
                self.check(1, f"{kind} ^{word}\n")

    def test_words_of_the_form_are_no_names(self):
        for word in KIND_WORDS + OTHER_WORDS:
            for kind in KIND_WORDS:
                self.check(1, f"{kind} ^{word}\n")
            for line in ("safe ^{}", "late ^{} 1", "member ^{} a", "member g ^{}", "send ^{} b 1 pre", "send a ^{} 1 pre"):
                self.check_setting(1, line.format(word) + "\n")

    def test_wrong_form_of_a_settings_name(self):
        for word in ("A", "a1", "a\0", "a" * 17, "7"):
            for line in ("safe ^{}", "late ^{} 1", "member ^{} a", "member g ^{}", "send ^{} b 1 pre", "send a ^{} 1 pre"):
                self.check_setting(1, line.format(word) + "\n")

    def test_line_ends_too_early(self):
        for whole in ("in e", "safe a", "late a 5", "member g a", "send a b 5 pre"):
            words = whole.split(" ")
            for count in range(1, len(words)):
                begun = " ".join(words[:count])
                for end in ("^", "^\n", "^\nsafe b\n", " ^", " ^\n", " ^ x\n"):
                    self.check_setting(1, begun + end)

    def test_line_ends_too_late(self):
        for whole in ("safe a", "late a 5", "member g a", "send a b 5 pre", "send a b 5 post"):
            for end in ("^", "^ \n", "^ x\n", "^  ", "^ pre\n"):
                self.check_setting(1, whole + end)
        for kind in KIND_WORDS:
            for end in ("^", "^ \n", "^ x\n", "^ in x\n"):
                self.check(1, f"{kind} x{end}")

    def test_wrong_form_of_a_num(self):
        for word in ("00", "01", "05", "007", "000001", "100000", "123456", "-1", "+1", "1.", "a", "1a", "a1", "0x1",
                     "1_0", "/", ":", "1\t", "\xb2", "pre", "99999999999999999999999"):
            self.check_setting(1, f"late a ^{word}\n")
            self.check_setting(1, f"send a b ^{word} pre\n")

    def test_wrong_form_of_pre_or_post(self):
        for word in ("x", "pr", "prepost", "Pre", "POST", "pos", "postt", "1", "in", "\0"):
            self.check_setting(1, f"send a b 1 ^{word}\n")

    def test_node_behind_a_setting(self):
        for kind in KIND_WORDS:
            for setting in ("safe a", "late a 5", "member g a", "send a b 5 pre"):
                self.check_setting(1, f"{setting}\n^{kind} x\n")
                self.check_setting(1, f"{setting}\nsafe b\n^{kind} x\nsafe c\n")
        # The wrong form goes before what else is wrong with that line.
        self.check_setting(1, "safe a\n^in a\n")
        outs = "".join(f"out {letter_name('o', k, 2)}\n" for k in range(4))
        self.check(1, f"{outs}safe oa\n^out x\n")

    def test_number_out_of_bounds(self):
        for number in ("0", "64", "65", "99", "100", "640", "65535", "99999"):
            self.check_setting(2, f"late a ^{number}\n")
        for number in ("65536", "65540", "65600", "66535", "75535", "70000", "99999"):
            self.check_setting(2, f"send a b ^{number} pre\n")

    def test_name_told_already(self):
        for first in KIND_WORDS:
            for second in KIND_WORDS:
                self.check(3, f"{first} x\nin y\n{second} ^x\n")
        self.check(3, "in abcdefghijklmnop\nin abcdefghijklmno\nbus ^abcdefghijklmnop\n")

    def test_name_not_told(self):
        for line in ("safe ^x", "late ^x 1", "member ^x a", "member g ^x", "send ^x b 1 pre", "send a ^x 1 pre"):
            self.check_setting(3, line + "\n")
        self.check(3, "safe ^a\n")
        self.check(3, "in ab\nsafe ^a\n")
        self.check(3, "in a\nsafe ^ab\n")
        # A name that only a later line tells isn't told yet.
        self.check(3, "in a\nsafe ^b\nin b\n")

    def test_node_that_may_not_stand_there(self):
        for line in ("safe ^g", "late ^g 1", "member ^a b", "member ^b a", "member ^c a", "member g ^g", "member g ^h",
                     "send ^c d 1 pre", "send ^g b 1 pre", "send a ^a 1 pre", "send a ^g 1 pre"):
            self.check_setting(3, line + "\n")
        self.check(3, "in a\nin b\nbus c\nsend a ^b 1 pre\n")

    def test_send_to_one_that_is_not_later(self):
        for line in ("send b ^b 1 pre", "send d ^b 1 pre", "send d ^c 1 pre"):
            self.check_setting(3, line + "\n")
        self.check(3, "out a\nin b\nsend b ^a 1 pre\n")
        self.check(3, "bus a\nin b\nsend b ^a 1 pre\n")

    def test_said_twice(self):
        self.check_setting(3, "safe a\nsafe ^a\n")
        self.check_setting(3, "safe a\nsafe b\nsend a b 1 pre\nsafe ^a\n")
        self.check_setting(3, "late a 1\nlate ^a 1\n")
        self.check_setting(3, "late a 1\nlate ^a 2\n")
        self.check_setting(3, "member g a\nmember g ^a\n")
        self.check_setting(3, "member g a\nmember h a\nmember g b\nmember g ^a\n")
        self.check_setting(3, "send a b 1 pre\nsend a ^b 1 pre\n")
        self.check_setting(3, "send a b 0 pre\nsend a d 0 pre\nsend a ^b 2 post\n")

    def test_one_too_many(self):
        for kind, most in (("in", 8), ("bus", 8), ("out", 4), ("group", 4)):
            full = "group x\n" * (kind != "group") + "".join(f"{kind} {letter_name('n', k, 2)}\n" for k in range(most))
            # What follows the first word comes later than the line's first byte.
            for rest in (" y\n", "", "\n", " ", "  y\n", " na\n", " in\n", " Y\n", " y y\n"):
                self.check(4, f"{full}^{kind}{rest}")
            self.check(1, f"{full}^{kind}s y\n")
        nodes, names = whole_desk(2)
        pairs = [(a, b) for a in names["in"] for b in names["bus"]]
        full = nodes + "".join(f"send {a} {b} 0 post\n" for a, b in pairs[:48])
        for rest in (" ia oa 0 pre\n", " ia ba 0 pre\n", " x y 0 pre\n", " ia oa 99999 pre\n", "", "\n", "  ", " ga"):
            self.check(4, f"{full}^send{rest}")
            self.check(4, f"{full}safe ia\n^send{rest}")
        self.check(1, f"{full}^sends\n")

    def test_first_of_several_faults(self):
        self.check(1, "in ^A\nin a\nin a\n")
        self.check(3, "in a\nin ^a\nin A\n")
        self.check(3, "in a\nin ^a x\n")
        self.check(3, "in a\nin ^a")
        self.check_setting(3, "late ^g 64\n")
        self.check_setting(3, "late a 3\nlate ^a 99\n")
        self.check_setting(3, "late ^x 00 x\n")
        self.check_setting(3, "late ^g")
        self.check_setting(2, "late a ^64 x\n")
        self.check_setting(2, "late a ^0")
        self.check_setting(1, "late ^ x 0\n")
        self.check_setting(3, "member ^a g\n")
        self.check_setting(3, "member ^a 1\n")
        self.check_setting(3, "send ^g x 99999 what\n")
        self.check_setting(3, "send a ^x 99999 what\n")
        self.check_setting(3, "send ^x A 1 pre\n")
        self.check_setting(1, "send ^A x 1 pre\n")
        self.check_setting(2, "send a b ^65536 what\n")
        self.check_setting(2, "send a b ^65536\n")
        self.check_setting(1, "send a b 65535 ^what")
        self.check_setting(1, "send a b 1 pre^ \nsend a b 1 pre\n")
        self.check_setting(3, "send a b 1 pre\nsend a ^b 99999 what\n")
        self.check_setting(2, "safe a\nlate a ^64\nsafe a\n")
        self.check_setting(3, "safe a\nsafe ^a\nlate a 64\nin x\n")

    def test_bytes_of_any_kind(self):
        for byte in range(256):
            wanted = [0, 0, 5, 1, 0, 0, 0, 0] if 97 <= byte <= 122 else [-6, 0, 2, 1, 3]
            with self.subTest(byte=byte):
                self.assertEqual([-6, 0, 2, 1, 0], self.answer(judge, [byte]))
                self.assertEqual(wanted, self.answer(judge, as_bytes("in ") + [byte, 10]))


if __name__ == "__main__":
    unittest.main()
