import unittest

from mixdesks.hall import find
from tests.desks import FULL, KIND_WORDS, OTHER_WORDS, HallCase, as_bytes, text_of_length, whole_desk


class FindTest(HallCase):
    def found(self, text, called):
        return self.answer(find, as_bytes(text), as_bytes(called))

    def test_nodes_of_all_kinds(self):
        names = ["voice", "drum", "band", "room", "left", "spare", "hall", "all", "right"]
        for number, called in enumerate(names):
            self.assertEqual([number, 0, 0], self.found(FULL, called))

    def test_all_nodes_of_a_whole_desk(self):
        for length in (2, 16):
            nodes, names = whole_desk(length)
            called = names["in"] + names["bus"] + names["out"] + names["group"]
            for number in range(24):
                self.assertEqual([number, 0, 0], self.found(nodes, called[number]))

    def test_names_that_begin_alike(self):
        text = "in aa\nbus a\nout aaa\n"
        for number, called in enumerate(("aa", "a", "aaa")):
            self.assertEqual([number, 0, 0], self.found(text, called))
        self.assertEqual([-4, 0, 0], self.found(text, "aaaa"))

    def test_names_of_1_and_16_letters(self):
        text = "in q\nin abcdefghijklmnop\n"
        self.assertEqual([0, 0, 0], self.found(text, "q"))
        self.assertEqual([1, 0, 0], self.found(text, "abcdefghijklmnop"))
        self.assertEqual([-4, 0, 0], self.found(text, "abcdefghijklmno"))
        self.assertEqual([-4, 0, 0], self.found(text, "abcdefghijklmnopq"))

    def test_name_that_is_not_there(self):
        for called in ("nobody", "voic", "voices", "Voice", " voice", "voice ", "voice\n", "", "x" * 40):
            with self.subTest(called=called):
                self.assertEqual([-4, 0, 0], self.found(FULL, called))

    def test_words_of_the_form_are_no_names(self):
        for called in KIND_WORDS + OTHER_WORDS + ("in voice", "63", "16384", "0"):
            self.assertEqual([-4, 0, 0], self.found(FULL, called))

    def test_bytes_of_any_kind(self):
        for byte in range(256):
            wanted = [0, 0, 0] if byte == ord("m") else [-4, 0, 0]
            self.assertEqual(wanted, self.answer(find, as_bytes("in m\n"), [byte]))
        self.assertEqual([-4, 0, 0], self.answer(find, as_bytes(FULL), list(range(256))[216:]))

    def test_desk_of_nothing(self):
        self.assertEqual([-4, 0, 0], self.found("", "a"))
        self.assertEqual([-4, 0, 0], self.found("", ""))

    def test_text_of_4096_bytes(self):
        _, names = whole_desk()
        self.assertEqual([23, 0, 0], self.found(text_of_length(4096), names["group"][3]))

    def test_text_is_refused_first(self):
        self.check_text_refusals(
            lambda t, called: self.answer(find, t, as_bytes(called)), ["a", "nobody", "", "oa", "ia" + "x" * 14]
        )


if __name__ == "__main__":
    unittest.main()
