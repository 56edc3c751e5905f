"""Point 1, so far as it says what an integer is, and chance/kinds.py."""

import unittest

from chance.kinds import has_head, is_integer, is_within

HUGE = 10 ** 40
NO_INTEGERS = [True, False, None, "", "1", b"1", 1.0, 1j, (), (1,), [1], {1: 1}, {1}, object(), int]


class TestKinds(unittest.TestCase):
    def test_integers(self):
        for number in (0, 1, -1, HUGE, -HUGE):
            self.assertIs(is_integer(number), True)
        for thing in NO_INTEGERS:
            self.assertIs(is_integer(thing), False)

    def test_limits(self):
        for low, high in ((0, 0), (-3, 5), (1, HUGE)):
            for number in (low, (low + high) // 2, high):
                self.assertIs(is_within(number, low, high), True)
            self.assertIs(is_within(low - 1, low, high), False)
            self.assertIs(is_within(high + 1, low, high), False)
        for thing in NO_INTEGERS:
            self.assertIs(is_within(thing, -5, 5), False)

    def test_heads(self):
        for thing in (("a",), ("", 1), ("even", (), [])):
            self.assertIs(has_head(thing), True)
        for thing in ((), (1, "a"), (("a",),), (None,), (b"a",), ["a"], "a", "ab", {"a": 1}, {"a"}, None, 5, True):
            self.assertIs(has_head(thing), False)


if __name__ == "__main__":
    unittest.main()
