"""How many ways there are, and which, from one node to another."""

import itertools
import unittest

from mixdesks.hall import way, ways
from tests.desks import MOST_NUMBER, HallCase, as_bytes, crowded_desk, text_of_length
from tests.made import Made

# a in 0, g group 1, b bus 2, c bus 3, d bus 4, e out 5, f in 6, h out 7, o bus 8 that sends nowhere
TEXT = (
    "in a\ngroup g\nbus b\nbus c\nbus d\nout e\nin f\nout h\nbus o\n"
    "send d e 0 post\nsend c e 1 pre\nsend b d 65535 pre\nsend a d 5 post\nsend c d 16384 pre\nmember g a\n"
    "send b c 0 pre\nsend a c 0 post\nsend a b 1 pre\nsend f h 0 pre\nsend f o 3 post\n"
)
WAYS_A_E = ([0, 2, 3, 4, 5], [0, 2, 3, 5], [0, 2, 4, 5], [0, 3, 4, 5], [0, 3, 5], [0, 4, 5])
OTHERS = (0, 2, 3, 4, 5, 6, 7, 8)
FAR = (9, 24, 2**32, 2**63, 2**64 - 8, MOST_NUMBER)


class WaysTest(HallCase):
    def check_ways(self, wanted, a, b, text=TEXT):
        """That just these ways are told, in this order."""
        handed = as_bytes(text)
        with self.subTest(a=a, b=b):
            self.assertEqual([len(wanted), 0, 0], self.answer(ways, a, b, handed))
            for k, nodes in enumerate(wanted):
                self.assertEqual([len(nodes), 0, len(nodes), *nodes], self.answer(way, a, b, k, handed))
            for k in (len(wanted), len(wanted) + 1, 2**63, MOST_NUMBER):
                self.assertEqual([-4, 0, 0], self.answer(way, a, b, k, handed))

    def check_refused(self, wanted, a, b, text=TEXT):
        handed = as_bytes(text)
        with self.subTest(a=a, b=b):
            self.assertEqual([wanted, 0, 0], self.answer(ways, a, b, handed))
            for k in (0, 1, MOST_NUMBER):
                self.assertEqual([wanted, 0, 0], self.answer(way, a, b, k, handed))

    def test_several_ways(self):
        self.check_ways(WAYS_A_E, 0, 5)
        self.check_ways([[0, 2, 3, 4], [0, 2, 4], [0, 3, 4], [0, 4]], 0, 4)
        self.check_ways([[2, 3, 4], [2, 4]], 2, 4)

    def test_one_way(self):
        self.check_ways([[0, 2]], 0, 2)
        self.check_ways([[4, 5]], 4, 5)
        self.check_ways([[6, 7]], 6, 7)

    def test_sends_in_any_order(self):
        lines = TEXT.splitlines(keepends=True)
        for turn in range(11):
            settings = lines[9 + turn:] + lines[9:9 + turn]
            self.check_ways(WAYS_A_E, 0, 5, "".join(lines[:9] + settings))

    def test_from_a_node_to_itself(self):
        for i in OTHERS:
            self.check_ways([[i]], i, i)

    def test_no_way(self):
        for a, b in ((0, 7), (0, 6), (6, 5), (0, 8), (5, 7), (7, 8), (2, 8), (2, 6)):
            self.check_ways([], a, b)
        self.check_ways([], 0, 1, "in a\nout b\n")

    def test_nodes_told_the_other_way_round(self):
        for a, b in itertools.combinations(OTHERS, 2):
            self.check_ways([], b, a)
        # A bus may be told ahead of the ins, an out ahead of the buses.
        self.check_ways([], 1, 0, "out a\nbus b\nout c\nsend b c 1 pre\n")
        self.check_ways([[1, 2]], 1, 2, "out a\nbus b\nout c\nsend b c 1 pre\n")

    def test_gains_do_not_matter(self):
        for gain in (0, 1, 65535):
            text = f"in a\nbus b\nout c\nsend a b {gain} pre\nsend b c {gain} post\n"
            self.check_ways([[0, 1, 2]], 0, 2, text)

    def test_crowded_desk(self):
        text = crowded_desk()
        buses = range(8, 16)
        chosen = [among for count in range(9) for among in itertools.combinations(buses, count)]
        self.check_ways(sorted([0, *among, 16] for among in chosen), 0, 16, text)
        self.check_ways(sorted([0, *among, 15] for among in chosen if 15 not in among), 0, 15, text)
        self.check_ways(sorted([0, *among, 15, 19] for among in chosen if 15 not in among), 0, 19, text)
        self.check_ways([[7, 15, 16]], 7, 16, text)
        self.check_ways([], 2, 16, text)
        self.check_ways([], 0, 17, text)
        self.check_ways([[19]], 19, 19, text)

    def test_text_of_4096_bytes(self):
        self.check_ways([[5, 15]], 5, 15, text_of_length(4096))
        self.check_ways([], 6, 15, text_of_length(4096))

    def test_group_at_an_end(self):
        for other in OTHERS + FAR + (1,):
            self.check_refused(-1, 1, other)
            self.check_refused(-1, other, 1)

    def test_no_such_node(self):
        for far in FAR:
            for other in OTHERS + FAR:
                self.check_refused(-4, far, other)
                self.check_refused(-4, other, far)

    def test_desk_of_nothing(self):
        self.check_refused(-4, 0, 0, "")
        self.check_refused(-4, MOST_NUMBER, MOST_NUMBER, "")

    def test_text_is_refused_first(self):
        pairs = [(0, 0), (0, 1), (22, 0), (0, 22), (MOST_NUMBER, MOST_NUMBER)]
        self.check_text_refusals(lambda t, pair: self.answer(ways, *pair, t), pairs)
        handed = [(*pair, k) for pair in pairs for k in (0, MOST_NUMBER)]
        self.check_text_refusals(lambda t, three: self.answer(way, *three, t), handed)

    def test_made_desks(self):
        for seed in range(40):
            made = Made(seed, most=(3, 5, 2, 1))
            for a in made.others():
                for b in made.others():
                    with self.subTest(seed=seed):
                        self.check_ways(made.ways(a, b), a, b, made.text)


if __name__ == "__main__":
    unittest.main()
