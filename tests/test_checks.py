"""Point 6 and chance/checks.py."""

import unittest

from chance.checks import holds, is_test, tried

HUGE = 10 ** 40
# More levels than Python nests calls.
FAR = 5000

NO_INTEGERS = [True, False, None, "", "1", b"1", 1.0, 0.5, 1j, (), (1,), [], [1], {}, {1}, object(), int]
OTHER_THINGS = [
    0, 1, -5, True, False, None, "", "even", "not", b"even", 1.0, 1j, [], ["even"], ["not", ("even",)], {}, {"even": 1},
    set(), {"even"}, frozenset(), range(3), object(), tuple, len, iter(()), Ellipsis,
]
# One test of each kind.
EACH = [
    ("equals", 5), ("less", 5), ("even",), ("size", 2), ("rising",), ("not", ("even",)), ("both", ("even",), ("rising",)),
    ("either", ("even",), ("rising",)), ("all", ("even",)), ("any", ("even",)),
]
# What wraps a test into another one that is one level deeper.
WRAPPERS = [
    lambda test: ("not", test),
    lambda test: ("all", test),
    lambda test: ("any", test),
    lambda test: ("both", test, ("even",)),
    lambda test: ("both", ("even",), test),
    lambda test: ("either", test, ("rising",)),
    lambda test: ("either", ("rising",), test),
]


def wrapped(wrapper, test, times):
    for _ in range(times):
        test = wrapper(test)
    return test


def nested(inner, levels):
    for _ in range(levels):
        inner = (inner,)
    return inner


class TestIsTest(unittest.TestCase):
    def test_each_kind(self):
        for test in EACH:
            with self.subTest(test=test):
                self.assertIs(is_test(test), True)

    def test_values_in_equals(self):
        for value in (0, -1, HUGE, (), (1, (2, ())), (0,) * 64, nested(5, 8)):
            self.assertIs(is_test(("equals", value)), True)
        wrong = [True, False, None, "a", b"", 1.0, [], [1], (1, [2]), (1, True), (1, "a"), {}, (0,) * 65, nested(5, 9)]
        for thing in wrong:
            with self.subTest(thing=thing):
                self.assertIs(is_test(("equals", thing)), False)
                self.assertIs(is_test(("not", ("equals", thing))), False)

    def test_integers_in_less_and_size(self):
        for head in ("less", "size"):
            for number in (0, 1, -1, 64, 65, HUGE, -HUGE):
                self.assertIs(is_test((head, number)), True)
            for thing in NO_INTEGERS:
                with self.subTest(head=head, thing=thing):
                    self.assertIs(is_test((head, thing)), False)

    def test_missing_and_spare_items(self):
        for test in EACH:
            with self.subTest(test=test):
                self.assertIs(is_test(test[:-1]), False)
                for spare in (0, (), ("even",), None):
                    self.assertIs(is_test(test + (spare,)), False)
                    self.assertIs(is_test(("not", test + (spare,))), False)

    def test_tests_inside_are_tests(self):
        for thing in OTHER_THINGS + [(), ("evn",), ("less", "5"), (("even",),)]:
            for wrapper in WRAPPERS:
                with self.subTest(thing=thing, like=wrapper(("even",))):
                    self.assertIs(is_test(wrapper(thing)), False)

    def test_unknown_words(self):
        for word in ("", "Even", "EVEN", "even ", " even", "odd", "equal", "sum", "flat", "const", "self"):
            for items in ((), (1,), (("even",),), (("even",), ("even",))):
                self.assertIs(is_test((word,) + items), False)

    def test_heads_that_are_no_words(self):
        for head in (0, True, None, b"even", (), ("even",), [], ["even"], {}, {"even"}, 1.0, object()):
            for items in ((), (1,), (("even",),), (("even",), ("even",))):
                self.assertIs(is_test((head,) + items), False)

    def test_lists_in_the_place_of_tuples(self):
        for test in EACH:
            self.assertIs(is_test(list(test)), False)
            for wrapper in WRAPPERS:
                self.assertIs(is_test(wrapper(list(test))), False)
                self.assertIs(is_test(list(wrapper(test))), False)
        self.assertIs(is_test(("equals", [1, 2])), False)
        self.assertIs(is_test(("equals", (1, [2]))), False)

    def test_things_of_any_other_kind(self):
        for thing in OTHER_THINGS + [(), ((),), (("even",),), nested(("even",), FAR)]:
            self.assertIs(is_test(thing), False)

    def test_depth(self):
        for test in EACH:
            for wrapper in WRAPPERS:
                depth = 2 if isinstance(test[-1], tuple) else 1
                with self.subTest(test=test, like=wrapper(("even",))):
                    self.assertIs(is_test(wrapped(wrapper, test, 5 - depth)), True)
                    self.assertIs(is_test(wrapped(wrapper, test, 6 - depth)), True)
                    self.assertIs(is_test(wrapped(wrapper, test, 7 - depth)), False)
                    self.assertIs(is_test(wrapped(wrapper, test, 8 - depth)), False)
                    self.assertIs(is_test(wrapped(wrapper, test, FAR)), False)

    def test_value_in_equals_does_not_count(self):
        for wrapper in WRAPPERS:
            self.assertIs(is_test(wrapped(wrapper, ("equals", nested(5, 8)), 5)), True)

    def test_a_list_in_itself(self):
        knot = ["not"]
        knot.append(knot)
        self.assertIs(is_test(knot), False)
        self.assertIs(is_test(("not", knot)), False)
        self.assertIs(is_test(("equals", (knot,))), False)

    def test_argument_unchanged(self):
        inner = ["even"]
        is_test(("not", inner))
        self.assertEqual(inner, ["even"])


class TestHolds(unittest.TestCase):
    def check(self, test, passing, failing):
        for value in passing:
            with self.subTest(test=test, value=value):
                self.assertIs(holds(test, value), True)
                self.assertIs(holds(("not", test), value), False)
        for value in failing:
            with self.subTest(test=test, value=value):
                self.assertIs(holds(test, value), False)
                self.assertIs(holds(("not", test), value), True)

    def test_equals(self):
        self.check(("equals", 5), [5], [4, 6, -5, (), (5,), ((5,),), (5, 5)])
        self.check(("equals", 0), [0], [1, -1, (), (0,)])
        self.check(("equals", -HUGE), [-HUGE], [HUGE, -HUGE + 1])
        self.check(("equals", ()), [()], [0, (0,), ((),)])
        self.check(("equals", (1, (2, ()))), [(1, (2, ()))], [(1, 2), (1, (2,)), (1, (2, (0,))), ((2, ()), 1), (1, (3, ()))])
        self.check(("equals", (1, 2)), [(1, 2)], [(2, 1), (1, 2, 3), (1,), ((1, 2),), 12])

    def test_less(self):
        self.check(("less", 5), [4, 0, -5, (), (4,), (1, 3), (2, (1, (1,))), (9, -5), ((), ())], [5, 6, (5,), (2, 3), (1, (4,))])
        self.check(("less", 0), [-1, (-1,), (1, -2), (1, (-2,))], [0, 1, (), ((),), (0,), (-1, 1), (3, (-2,))])
        self.check(("less", -3), [-4, (-2, -2), (-HUGE,)], [-3, -2, 0, (), (-1, -2), (-4, 1)])
        self.check(("less", HUGE), [HUGE - 1, (HUGE, -1)], [HUGE, (HUGE, 0), (HUGE - 1, 1)])

    def test_even(self):
        even = [0, 2, -2, HUGE, (), (0,), (1, 1), (1, (2, (3,))), (-1, -1), (-1, 3), ((), ()), (-4,), (-5, (2, 1))]
        self.check(("even",), even, [1, -1, -3, HUGE + 1, (1,), (-1,), (2, 1), (1, (1, (1,))), (-2, -1), ((-7,),)])

    def test_size(self):
        self.check(("size", 0), [0, 5, -5, HUGE, ()], [(0,), ((),), (1, 2)])
        self.check(("size", 1), [(0,), ((),), ((1, 2),)], [1, 0, (), (1, 1)])
        self.check(("size", 2), [(0, 0), ((), (1, 2, 3))], [2, (), (2,), ((1, 2),), (1, 2, 3)])
        self.check(("size", 64), [(0,) * 64], [64, (0,) * 63, (0,) * 65])
        self.check(("size", -1), [], [-1, 0, (), (-1,)])

    def test_rising(self):
        rising = [
            0, 7, -7, (), (5,), ((2, 1),), (1, 2, 3), (1, 1, 1), (-2, -1, -1, 0), (1, 5, 5, 9), (9, ()), (1, (0,)),
            ((), ()), ((), (0,)), ((9,), (0, 0)), ((0, 1), (0, 1), (0, 2)), ((3, 1), (3, 2)), (-1, 2, (), (-5,)),
        ]
        falling = [
            (2, 1), (1, 2, 1), (2, 1, 3), (1, 1, 0), ((), 9), ((0,), 1), ((0,), ()), ((0, 0), (9,)), (1, (), 2),
            ((0, 2), (0, 1)), (-1, -2), (1, 2, 3, 2),
        ]
        self.check(("rising",), rising, falling)

    def test_not(self):
        self.check(("not", ("even",)), [1, (1,)], [0, (), (1, 1)])
        self.check(("not", ("not", ("even",))), [0, ()], [1, (1,)])

    def test_both_and_either(self):
        less, size, even = ("less", 5), ("size", 2), ("even",)
        self.check(("both", less, size), [(1, 3)], [(1, 4), (4,), 4, 5, (1, 1, 1), (9,)])
        self.check(("both", size, less), [(1, 3)], [(1, 4), (4,), 4, 5, (1, 1, 1), (9,)])
        self.check(("either", less, size), [(1, 3), (1, 4), (4,), 4, (1, 1, 1)], [5, (9,), (2, 2, 2)])
        self.check(("either", size, less), [(1, 3), (1, 4), (4,), 4, (1, 1, 1)], [5, (9,), (2, 2, 2)])
        for one in (("less", 9), ("less", 1)):
            for two in (("size", 0), ("size", 1)):
                passes = [test in (("less", 9), ("size", 0)) for test in (one, two)]
                self.assertIs(holds(("both", one, two), 4), all(passes))
                self.assertIs(holds(("either", one, two), 4), any(passes))
        self.check(("both", even, ("not", even)), [], [0, 1, (), (1,)])
        self.check(("either", even, ("not", even)), [0, 1, (), (1,)], [])

    def test_all(self):
        self.check(("all", ("even",)), [0, 2, (), (2,), (2, 4), ((1, 1), 2), ((),)], [1, (1,), (1, 1), (2, 1), (1, 2), (2, 3, 4)])
        self.check(("all", ("size", 2)), [(), ((1, 2),), ((1, 2), (3, 4))], [2, (1, 2), ((1, 2), 3), ((1, 2), (3,))])
        self.check(("all", ("equals", 5)), [5, (5,), (5, 5), ()], [4, (5, 4), ((5,),), (4, 5)])
        self.check(("all", ("all", ("less", 3))), [2, (2, 2), ((2, 2), (1,)), ()], [3, (3,), ((2, 3),), ((2, 2), 3)])

    def test_any(self):
        self.check(("any", ("even",)), [0, 2, (2,), (1, 2), (2, 1), ((1, 1), 1), ((),), (1, 3, 4)], [1, (), (1,), (1, 1), (1, 3, 5)])
        self.check(("any", ("size", 2)), [((1, 2),), (5, (1, 2))], [2, (), (1, 2), ((1,), 5)])
        self.check(("any", ("equals", 5)), [5, (5,), (4, 5), (5, 4)], [4, (), (4,), ((5,),)])
        self.check(("any", ("any", ("less", 3))), [2, (2,), ((3, 2), (5,)), (4, 2)], [3, (), ((),), ((3,), 3), ((), ())])

    def test_all_and_any_look_one_level_deep(self):
        self.check(("all", ("any", ("even",))), [2, (), (2, (1, 2))], [1, (2, ()), (2, (1,))])
        self.check(("any", ("all", ("even",))), [2, ((),), (1, (2, 2))], [1, (), ((2, 1), 1)])

    def test_six_levels(self):
        test = ("either", ("both", ("not", ("all", ("any", ("even",)))), ("less", 5)), ("size", 3))
        self.check(test, [1, (1,), ((1, 3),), (2, 2, 2), (1, 1, 9)], [2, (2,), (), ((1, 2),), ((9,),)])

    def test_values_beyond_the_limits(self):
        deep = nested(3, FAR)
        self.check(("equals", nested(3, 8)), [nested(3, 8)], [nested(3, 7), nested(3, 9), deep])
        self.check(("less", 4), [deep, (0,) * 1000], [nested(4, FAR), (1,) * 1000])
        self.check(("even",), [nested(4, FAR), (1,) * 1000], [deep, (1,) * 1001])
        self.check(("size", 1000), [(deep,) * 1000], [(deep,) * 999])
        self.check(("rising",), [deep, (deep, deep), (deep, nested(4, FAR)), (1,) * 1000], [(nested(4, FAR), deep)])
        self.check(("all", ("less", 4)), [deep, (deep, 3)], [(deep, 4)])
        self.check(("any", ("less", 4)), [deep, (deep, 4)], [(nested(4, FAR), 4)])
        self.assertIs(holds(("equals", deep), nested(3, FAR)), True)
        self.assertIs(holds(("equals", deep), nested(4, FAR)), False)


class TestTried(unittest.TestCase):
    def test_numbers_of_point_20(self):
        for whole in (1, 2, 15, HUGE):
            for failing in (0, 1, 7, HUGE):
                for tries in (1, 2, 3, 4):
                    factor = sum(whole ** (tries - 1 - number) * failing ** number for number in range(tries))
                    self.assertEqual(tried(whole, failing, tries), (factor, failing ** tries))


if __name__ == "__main__":
    unittest.main()
