"""What the document promises over the whole program, on made desks of many forms."""

import random
import unittest

from mixdesks.hall import comes, heard, last, live, long, mix, slow, wait, way, ways, whole
from tests.desks import MOST_SIGNED, HallCase
from tests.made import IN, OUT, Made
from tests.reference import LEAST, MOST, Reference, bare_length, pick_samples, pick_settings

# The most ins, buses, outs and groups.
FORMS = ((5, 6, 3, 2), (8, 2, 4, 1), (1, 8, 2, 4), (8, 8, 4, 4), (3, 3, 3, 0))


class LevelPromisesTest(HallCase):
    """Of solos, of greater ins, of an in that isn't heard."""

    def made_desks(self, count):
        for seed in range(count):
            made = Made(1000 + seed, most=FORMS[seed % len(FORMS)])
            chance = random.Random(seed)
            s, g = pick_settings(made, chance)
            yield made, s, g, chance

    def live_nodes(self, made, s, g):
        return [x for x in made.others() if self.answer(live, x, made.bytes, s, g)[0] == 1]

    def test_without_solos_just_what_is_muted_is_not_live(self):
        for made, s, g, _ in self.made_desks(40):
            s = [switch & 1 for switch in s]
            reference = Reference(made, s, g)
            wanted = [x for x in made.others() if not reference.is_muted(x)]
            self.assertEqual(wanted, self.live_nodes(made, s, g))

    def test_one_more_solo_makes_nobody_silent(self):
        for made, s, g, chance in self.made_desks(60):
            if not Reference(made, s, g).soloed:
                continue
            before = self.live_nodes(made, s, g)
            x = chance.randrange(len(s))
            more = s[:x] + [s[x] | 2] + s[x + 1:]
            self.assertLessEqual(set(before), set(self.live_nodes(made, more, g)))

    def test_greater_ins_make_nothing_less(self):
        for made, s, g, chance in self.made_desks(100):
            ins = pick_samples(made, chance)
            greater = [min(MOST_SIGNED, sample + chance.choice((0, 1, 9999, 2**62))) for sample in ins]
            less = self.answer(mix, made.bytes, s, g, ins)
            more = self.answer(mix, made.bytes, s, g, greater)
            self.assertTrue(all(a <= b for a, b in zip(less, more)), (made.text, s, g, ins, greater))

    def test_an_in_that_is_not_heard_changes_nothing_there(self):
        told_unheard = 0
        for made, s, g, chance in self.made_desks(60):
            ins = pick_samples(made, chance)
            before = self.answer(mix, made.bytes, s, g, ins)
            for place, a in enumerate(made.of_kinds(IN)):
                other = ins[:place] + [chance.choice((LEAST, MOST))] + ins[place + 1:]
                after = self.answer(mix, made.bytes, s, g, other)
                for o in made.of_kinds(OUT):
                    if self.answer(heard, a, o, made.bytes, s, g) == [0, 0, 0]:
                        told_unheard += 1
                        given = 3 + len(s) + o
                        self.assertEqual(before[given], after[given], (made.text, s, g, ins, a, o))
        self.assertGreater(told_unheard, 50)


class DelayPromisesTest(HallCase):
    """Of ways and waits."""

    def made_desks(self, count):
        return [Made(2000 + seed, most=FORMS[seed % len(FORMS)]) for seed in range(count)]

    def told_ways(self, made, a, b):
        """All ways from a to b, as they are told one by one."""
        count = self.answer(ways, a, b, made.bytes)[0]
        found = [self.answer(way, a, b, k, made.bytes) for k in range(count)]
        for told in found:
            self.assertEqual([told[0], 0, told[0]], told[:3])
            self.assertEqual(told[0], len(told) - 3)
        return [told[3:] for told in found]

    def ways_from_ins(self, made, x):
        return [nodes for a in made.of_kinds(IN) for nodes in self.told_ways(made, a, x)]

    def test_ways_are_told_in_order_each_once(self):
        for made in self.made_desks(20):
            for a in made.of_kinds(IN):
                for b in made.of_kinds(OUT):
                    found = self.told_ways(made, a, b)
                    self.assertTrue(all(first < second for first, second in zip(found, found[1:])))
                    self.assertTrue(all(nodes[0] == a and nodes[-1] == b for nodes in found))

    def test_all_ways_from_ins_to_a_node_are_equally_long(self):
        several = 0
        for made in self.made_desks(40):
            for x in made.others():
                found = self.ways_from_ins(made, x)
                several += len(found) > 1
                told = self.answer(comes, x, made.bytes)
                if not found:
                    self.assertEqual([-4, 0, 0], told)
                    continue
                # None is longer than the longest without waits.
                self.assertEqual([max(bare_length(made, nodes) for nodes in found), 0, 0], told)
                for nodes in found:
                    self.assertEqual(told, self.answer(long, made.bytes, nodes), (made.text, nodes))
        self.assertGreater(several, 50)

    def test_on_each_slow_way_nothing_waits(self):
        for made in self.made_desks(40):
            waits = {told[:2]: self.answer(wait, i, made.bytes) for i, told in enumerate(made.sends)}
            for x in made.others():
                told = self.answer(slow, x, made.bytes)
                if told == [-4, 0, 0]:
                    self.assertEqual([], self.ways_from_ins(made, x))
                    continue
                nodes = told[3:]
                self.assertEqual([len(nodes), 0, len(nodes)], told[:3])
                for pair in zip(nodes, nodes[1:]):
                    self.assertEqual([0, 0, 0], waits[pair], (made.text, nodes))
                slowest = self.answer(comes, x, made.bytes)[0]
                equal = [found for found in self.ways_from_ins(made, x) if bare_length(made, found) == slowest]
                self.assertEqual(min(equal), nodes)

    def test_all_fed_outs_are_equally_late(self):
        for made in self.made_desks(60):
            delay = self.answer(whole, made.bytes)[0]
            lasts = []
            for o in made.of_kinds(OUT):
                told = self.answer(last, o, made.bytes)
                come = self.answer(comes, o, made.bytes)
                if come == [-4, 0, 0]:
                    self.assertEqual([0, 0, 0], told)
                else:
                    self.assertEqual(delay, come[0] + made.late[o] + told[0])
                    lasts.append(told[0])
            # No longer than it must be: at one of the outs nothing waits.
            self.assertEqual(0, min(lasts, default=delay))

    def test_no_wait_is_below_0(self):
        for made in self.made_desks(40):
            for i in range(len(made.sends)):
                self.assertGreaterEqual(self.answer(wait, i, made.bytes)[0], 0)


if __name__ == "__main__":
    unittest.main()
