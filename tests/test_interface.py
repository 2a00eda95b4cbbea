"""The calls are there with the names and arguments of the document's interface."""

import inspect
import unittest

from mixdesks import hall

INTERFACE = (
    "judge(t)", "find(t, called)", "name(i, t)", "node(i, t)", "send(i, t)", "member(group, i, t)", "ways(a, b, t)",
    "way(a, b, k, t)", "live(x, t, s, g)", "gain(x, t, s, g)", "heard(a, o, t, s, g)", "mix(t, s, g, ins)",
    "loud(x, t, s, g)", "whole(t)", "comes(x, t)", "wait(i, t)", "last(o, t)", "long(t, nodes)", "slow(x, t)",
)


class InterfaceTest(unittest.TestCase):
    def test_names_and_arguments(self):
        for call in INTERFACE:
            name = call.split("(")[0]
            with self.subTest(name=name):
                self.assertEqual(call, name + str(inspect.signature(getattr(hall, name))))


if __name__ == "__main__":
    unittest.main()
