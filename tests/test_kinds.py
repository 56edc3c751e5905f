"""Point 1, so far as it says what an integer is, and chance/kinds.py."""

import unittest

from chance.kinds import alike, has_head, is_integer, is_within

HUGE = 10 ** 40
NO_INTEGERS = [True, False, None, "", "1", b"1", 1.0, 1j, (), (1,), [1], {1: 1}, {1}, object(), int]


class TestKinds(unittest.TestCase):
    def test_integers(self):
        for number in (0, 1, -1, HUGE, -HUGE):
            self.assertIs(is_integer(number), True)
        for thing in NO_INTEGERS:
            self.assertIs(is_integer(thing), False)

    def test_limits(self):
        for low, high in ((0, 0), (-3, 5), (1, HUGE)):
            for number in (low, (low + high) // 2, high):
                self.assertIs(is_within(number, low, high), True)
            self.assertIs(is_within(low - 1, low, high), False)
            self.assertIs(is_within(high + 1, low, high), False)
        for thing in NO_INTEGERS:
            self.assertIs(is_within(thing, -5, 5), False)

    def test_heads(self):
        for thing in (("a",), ("", 1), ("even", (), [])):
            self.assertIs(has_head(thing), True)
        for thing in ((), (1, "a"), (("a",),), (None,), (b"a",), ["a"], "a", "ab", {"a": 1}, {"a"}, None, 5, True):
            self.assertIs(has_head(thing), False)

    def test_alike(self):
        known = [0, -1, HUGE, "", "ab", None, (), [], (1,), [1], (1, (2, [3, None, "a"])), [((0,), None)], ((), ()), [(), [()]]]
        for first, one in enumerate(known):
            for second, two in enumerate(known):
                self.assertIs(alike(one, two), first == second)
        for thing in (True, 1.0, 1j, b"", "1", {}, {1}, {1: 1}, object(), range(1), frozenset(), False, 0.0, (True,), [1.0], ((1,), (2, [3, None, "a"]))):
            for one in known:
                self.assertIs(alike(thing, one), False)
        for thing in ((1, 2), [1, 2], ([1],), [(1,)], (1, (2, (3, None, "a"))), (1, (2, [3, None, "a"], 4)), ((1, (2, [3, 0, "a"])),)):
            for one in known:
                self.assertIs(alike(thing, one), False)

    def test_alike_far_inside(self):
        deep, other = 5, 6
        for _ in range(5000):
            deep, other = (deep,), (other,)
        same = 5
        for _ in range(5000):
            same = (same,)
        self.assertIs(alike(same, deep), True)
        self.assertIs(alike(other, deep), False)
        self.assertIs(alike((deep,), deep), False)
        knot = []
        knot.append(knot)
        self.assertIs(alike(knot, [[[]]]), False)


if __name__ == "__main__":
    unittest.main()
