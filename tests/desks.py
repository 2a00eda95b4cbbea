"""Desks for the tests, and a test case that watches what every call must keep to."""

import copy
import unittest

MOST_NUMBER = 18446744073709551615
MOST_SIGNED = 9223372036854775807
LEAST_SIGNED = -9223372036854775808
UNIT = 16384

FULL = (
    "in voice\n"
    "in drum\n"
    "group band\n"
    "bus room\n"
    "out left\n"
    "in spare\n"
    "bus hall\n"
    "group all\n"
    "out right\n"
    "safe room\n"
    "late drum 7\n"
    "member band drum\n"
    "send voice room 16384 pre\n"
    "send voice left 0 post\n"
    "member all room\n"
    "send room left 65535 post\n"
    "late room 63\n"
    "safe right\n"
    "send hall right 1 pre\n"
    "member all drum\n"
    "late left 1\n"
)

KIND_WORDS = ("in", "bus", "out", "group")
OTHER_WORDS = ("safe", "late", "member", "send", "pre", "post")


def as_bytes(text):
    return list(text.encode("latin-1"))


def numbers_by_name(text, usual, **given):
    """A list of numbers, one for each node of the text: those given by the nodes' names, else the usual one."""
    names = [line.split(" ")[1] for line in text.splitlines() if line.split(" ")[0] in KIND_WORDS]
    assert set(given) <= set(names), given
    return [given.get(called, usual) for called in names]


def split_mark(marked):
    """The bytes of a text without its one sign ^, and the place where that stood."""
    assert marked.count("^") == 1, marked
    return as_bytes(marked.replace("^", "")), marked.index("^")


def letter_name(first, number, length):
    """A name of that many letters; others for other firsts or, from 0 to 25, numbers."""
    return (first + chr(ord("a") + number)).ljust(length, "x")


def whole_desk(length=16):
    """The node lines of a desk with as many nodes of each kind as there may be, and their names by kind."""
    names = {
        kind: [letter_name(first, number, length) for number in range(most)]
        for kind, first, most in (("in", "i", 8), ("bus", "b", 8), ("out", "o", 4), ("group", "g", 4))
    }
    lines = [f"{kind} {name}\n" for kind in names for name in names[kind]]
    return "".join(lines), names


def text_of_length(length):
    """A desk's text of that many bytes, around 4,096: all nodes, 48 sends, members as they fit, gains as wide."""
    nodes, names = whole_desk()
    pairs = [(a, b) for a in names["in"] for b in names["bus"]][:48]
    plain_sends = [f"send {a} {b} 1 pre\n" for a, b in pairs]
    members = [f"member {g} {x}\n" for g in names["group"] for x in names["in"] + names["bus"]]
    left = length - len(nodes) - len("".join(plain_sends))
    fitting = members[: left // len(members[0])]
    left -= len("".join(fitting))
    sends = []
    for a, b in pairs:
        more = min(left, 4)
        left -= more
        sends.append(f"send {a} {b} {'1' * (1 + more)} pre\n")
    text = nodes + "".join(sends) + "".join(fitting)
    assert left == 0 and len(text) == length
    return text


def crowded_desk():
    """A desk of 8 ins (0 to 7), 8 buses (8 to 15), 4 outs (16 to 19) and 48 sends, the last sender's first.

    In 0 and the buses send to each later bus, and to out 16; of the rest there are few sends.
    """
    nodes, names = whole_desk(2)
    nodes = "".join(line for line in nodes.splitlines(keepends=True) if not line.startswith("group"))
    called = names["in"] + names["bus"] + names["out"]
    row = [0, *range(8, 17)]
    pairs = [(a, b) for a in row for b in row if a < b] + [(1, 8), (7, 15), (15, 19)]
    assert len(pairs) == 48
    sends = [f"send {called[a]} {called[b]} {7 * b} pre\n" for a, b in sorted(pairs, reverse=True)]
    return nodes + "".join(sends)


class HallCase(unittest.TestCase):
    def answer(self, function, *handed):
        """The call's answer, after checks that hold for every call."""
        before = copy.deepcopy(handed)
        first = function(*handed)
        self.assertEqual(before, handed, "what was handed in has changed")
        self.assertIs(type(first), list)
        self.assertTrue(all(type(number) is int for number in first), first)
        kept = list(first)
        # What a caller does to an answer must not reach the next one.
        first.append(-99)
        self.assertEqual(before, handed, "the answer is part of what was handed in")
        self.assertEqual(kept, function(*handed), "a second call answers otherwise")
        return kept

    def check_text_refusals(self, call, more):
        """That -2 goes before -6, and both before what else the call may refuse; call is handed the text."""
        for text, wanted in (
            (text_of_length(4097), [-2, 0, 0]),
            ("?" * 4097, [-2, 0, 0]),
            ("\n" * 4200, [-2, 0, 0]),
            ("?" * 4096, [-6, 0, 2, 1, 0]),
            ("in a\nin b", [-6, 0, 2, 1, 9]),
            ("in a\nlate a 64\n", [-6, 0, 2, 2, 12]),
            ("in a\nin a\n", [-6, 0, 2, 3, 8]),
            ("".join(f"out {letter_name('o', k, 2)}\n" for k in range(5)), [-6, 0, 2, 4, 28]),
        ):
            for handed in more:
                with self.subTest(text=text[:40], length=len(text), handed=handed):
                    self.assertEqual(wanted, call(as_bytes(text), handed))

    def check_setting_refusals(self, count, call, handed_sets, unfit_too=True):
        """That switches and faders are refused before all else; call is handed them and one of the sets.

        The call's text tells that many nodes, at least 1.
        """
        switches, faders = [3] * count, [65535] * count
        uneven = [[], [0] * (count - 1), [0] * (count + 1), [0] * 40, [MOST_NUMBER] * (count + 1)]
        bad_switches = [[*switches[1:], bad] for bad in (4, 5, 7, 8, 256, 2**63, MOST_NUMBER)]
        bad_switches += [[4, *switches[1:]]]
        bad_faders = [[*faders[1:], bad] for bad in (65536, 65537, 131072, 2**63, MOST_NUMBER)]
        bad_faders += [[65536, *faders[1:]]]
        cases = [(-5, wrong, g) for wrong in uneven for g in [faders, bad_faders[0], *uneven]]
        cases += [(-5, s, wrong) for wrong in uneven for s in (switches, bad_switches[0])]
        if unfit_too:
            cases += [(-1, bad, g) for bad in bad_switches for g in (faders, bad_faders[0])]
            cases += [(-1, switches, bad) for bad in bad_faders]
        for wanted, s, g in cases:
            for handed in handed_sets:
                with self.subTest(s=s, g=g, handed=handed):
                    self.assertEqual([wanted, 0, 0], call(s, g, handed))
