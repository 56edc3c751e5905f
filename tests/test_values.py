"""Points 1 to 5 and chance/values.py."""

import unittest
from functools import cmp_to_key
from itertools import permutations

from chance.values import apply, ascending, compare, is_value, place_of, ranks_of, size_of, sum_of

HUGE = 10 ** 40
# More levels than Python nests calls, and more than it compares tuples by `==`.
FAR = 5000

# In strictly ascending order.
ORDERED = [
    -HUGE, -2, -1, 0, 1, 7, HUGE,
    (),
    (-5,), (0,), (3,), (HUGE,), ((),), ((-1,),), ((4,),), (((),),), ((((),),),), ((((0,),),),), ((0, 0),),
    (0, 0), (0, 1), (0, ()), (0, (9,)), (0, (0, 0)), (1, 0), (1, (2,)), (1, (3,)), ((), 5), ((), ()), ((1,), 0),
    ((1, 1), -9),
    (-9, 9, 9), (0, 0, 0), (0, (1, (2,)), 5), (0, (1, (2,)), 6), (0, (1, (3,)), 5), (0, (2, (2,)), 5),
    (-HUGE,) * 64,
    (-HUGE,) * 65,
]


def nested(inner, levels):
    for _ in range(levels):
        inner = (inner,)
    return inner


def unnested(value):
    """The innermost part of nested tuples of one part each, and their number."""
    levels = 0
    while isinstance(value, tuple):
        assert len(value) == 1
        value = value[0]
        levels += 1
    return value, levels


def expected_order(one, two):
    """Point 3, word by word."""
    if isinstance(one, int) and isinstance(two, int):
        return (one > two) - (one < two)
    if isinstance(one, int) or isinstance(two, int):
        return -1 if isinstance(one, int) else 1
    if len(one) != len(two):
        return -1 if len(one) < len(two) else 1
    for left, right in zip(one, two):
        if left != right:
            return expected_order(left, right)
    return 0


def small_values():
    """All values of at most two levels, two parts a tuple, and the integers 0 and 1."""
    flat = [0, 1, ()] + [(k,) for k in (0, 1)] + [(j, k) for j in (0, 1) for k in (0, 1)]
    return flat + [(one,) for one in flat[2:]] + [
        (one, two) for one in flat for two in flat if isinstance(one, tuple) or isinstance(two, tuple)
    ]


class TestIsValue(unittest.TestCase):
    def test_integers(self):
        for number in (0, 1, -1, 63, -1000, HUGE, -HUGE, 2 ** 1000):
            self.assertIs(is_value(number), True)

    def test_tuples(self):
        for value in ((), (1,), (1, -2, HUGE), ((), ()), (1, (2, (3, ())), 4)):
            self.assertIs(is_value(value), True)

    def test_length(self):
        for inner in (0, (), (1, 2)):
            self.assertIs(is_value((inner,) * 63), True)
            self.assertIs(is_value((inner,) * 64), True)
            self.assertIs(is_value((inner,) * 65), False)
            self.assertIs(is_value((5, (inner,) * 64)), True)
            self.assertIs(is_value((5, (inner,) * 65)), False)
        self.assertIs(is_value(((0,) * 64,) * 64), True)
        self.assertIs(is_value(nested((0,) * 64, 7)), True)
        self.assertIs(is_value(nested((0,) * 65, 7)), False)

    def test_depth(self):
        self.assertIs(is_value(nested(5, 8)), True)
        self.assertIs(is_value(nested(5, 9)), False)
        self.assertIs(is_value(nested((), 7)), True)
        self.assertIs(is_value(nested((), 8)), False)
        self.assertIs(is_value((1, 2, nested(5, 7))), True)
        self.assertIs(is_value((1, 2, nested(5, 8))), False)
        self.assertIs(is_value((nested(5, 7), nested(5, 8))), False)
        self.assertIs(is_value(nested(5, FAR)), False)

    def test_no_values(self):
        wrong = [
            True, False, None, "", "a", "12", b"", b"a", 1.0, 0.5, 1j, [], [1], {}, {1: 2}, set(), {1}, frozenset(),
            range(3), object(), int, len, iter(()), Ellipsis,
        ]
        for thing in wrong:
            for levels in (0, 1, 2, 7, 8):
                self.assertIs(is_value(nested(thing, levels)), False)
            self.assertIs(is_value((thing, 1)), False)
            self.assertIs(is_value((1, 2, thing)), False)
            self.assertIs(is_value((1, (2, (3, thing, 4)), 5)), False)

    def test_a_list_in_itself(self):
        knot = []
        knot.append((knot,))
        self.assertIs(is_value((knot,)), False)


class TestCompare(unittest.TestCase):
    def test_example_of_the_document(self):
        self.assertEqual(compare((3,), (0, 0)), -1)

    def test_ordered_values(self):
        for first, one in enumerate(ORDERED):
            for second, two in enumerate(ORDERED):
                with self.subTest(one=one, two=two):
                    found = compare(one, two)
                    self.assertIs(type(found), int)
                    self.assertEqual(found, (first > second) - (first < second))

    def test_all_small_values(self):
        for one in small_values():
            for two in small_values():
                self.assertEqual(compare(one, two), expected_order(one, two))

    def test_equal_values_made_apart(self):
        self.assertEqual(compare(tuple([1, tuple([2, ()])]), tuple([1, tuple([2, ()])])), 0)

    def test_beyond_the_limits(self):
        self.assertEqual(compare((0,) * 500, (0,) * 501), -1)
        self.assertEqual(compare((9,) * 501, (9,) * 500), 1)
        self.assertEqual(compare((0,) * 500 + (1,), (0,) * 500 + (2,)), -1)
        self.assertEqual(compare(nested(3, FAR), nested(3, FAR)), 0)
        self.assertEqual(compare(nested(3, FAR), nested(4, FAR)), -1)
        self.assertEqual(compare(nested((), FAR), nested(4, FAR)), 1)
        self.assertEqual(compare(nested(3, FAR), nested(3, FAR + 1)), -1)


class TestAscending(unittest.TestCase):
    def test_ordered_values_in_any_order(self):
        for step in range(1, len(ORDERED)):
            mixed = [one for first in range(step) for one in ORDERED[first::step]]
            self.assertEqual(ascending(mixed), ORDERED)
            self.assertEqual(ascending(mixed[::-1]), ORDERED)

    def test_all_orders_of_some(self):
        some = [2, 10, (), (7,), ((),), (1, 2)]
        for mixed in permutations(some):
            self.assertEqual(ascending(list(mixed)), some)

    def test_all_small_values(self):
        mixed = small_values() + small_values()
        self.assertEqual(ascending(mixed), sorted(mixed, key=cmp_to_key(expected_order)))

    def test_empty_and_single(self):
        self.assertEqual(ascending([]), [])
        self.assertEqual(ascending([(1, 0)]), [(1, 0)])

    def test_duplicates_stay(self):
        self.assertEqual(ascending([(1,), 3, (1,), 3, 3, ()]), [3, 3, 3, (), (1,), (1,)])

    def test_argument_unchanged_and_list_new(self):
        for given in ([], [1], [1, 2, ()], [(2, 1), 5, (), 5]):
            before = list(given)
            found = ascending(given)
            self.assertEqual(given, before)
            self.assertIs(type(found), list)
            self.assertIsNot(found, given)

    def test_elements_keep_their_order_inside(self):
        self.assertEqual(ascending([(3, 1, 2), (2, 9, 1)]), [(2, 9, 1), (3, 1, 2)])

    def test_beyond_the_limits(self):
        found = ascending([nested(4, FAR), (0,) * 100, nested(3, FAR), 7])
        self.assertEqual((found[0], found[3]), (7, (0,) * 100))
        self.assertEqual((unnested(found[1]), unnested(found[2])), ((3, FAR), (4, FAR)))


class TestRanksOf(unittest.TestCase):
    def test_order_and_equality(self):
        for values in (ORDERED, small_values()):
            for one in values:
                for two in values:
                    left, right = ranks_of(one), ranks_of(two)
                    self.assertEqual((left > right) - (left < right), compare(one, two))

    def test_flat_tuples_of_integers(self):
        for value in ORDERED + [nested(3, FAR)]:
            self.assertIs(type(ranks_of(value)), tuple)
            self.assertEqual({type(number) for number in ranks_of(value)}, {int})
        self.assertNotEqual(ranks_of(nested(3, FAR)), ranks_of(nested(4, FAR)))
        self.assertNotEqual(ranks_of(nested(3, FAR)), ranks_of(nested(3, FAR + 1)))


class TestPlaceOf(unittest.TestCase):
    def test_ordered_values(self):
        for place, value in enumerate(ORDERED):
            self.assertEqual(place_of(value, ORDERED), place)
            self.assertEqual(place_of(value, ORDERED[:place]), place)
            self.assertEqual(place_of(value, ORDERED[:place] + ORDERED[place + 1:]), place)
            self.assertEqual(place_of(value, ORDERED[place + 1:]), 0)

    def test_empty_list(self):
        self.assertEqual(place_of(5, []), 0)
        self.assertEqual(place_of((), []), 0)

    def test_value_that_stands_several_times(self):
        for before in range(5):
            for times in range(5):
                for after in range(5):
                    found = [1] * before + [(2, 2)] * times + [(3, 0)] * after
                    self.assertEqual(place_of((2, 2), found), before)
                    self.assertEqual(place_of(2, found), before)
                    self.assertEqual(place_of((4, 0), found), before + times + after)

    def test_agrees_with_counting(self):
        found = ascending(small_values() + small_values()[::3])
        for value in small_values() + [-1, 2, (2, 2), (0, 0, 0)]:
            less = [one for one in found if expected_order(one, value) < 0]
            self.assertEqual(place_of(value, found), len(less))

    def test_argument_unchanged(self):
        found = [1, 1, (), (0, 0)]
        place_of((), found)
        self.assertEqual(found, [1, 1, (), (0, 0)])

    def test_beyond_the_limits(self):
        found = [0, nested(3, FAR), nested(4, FAR), (0,) * 100]
        self.assertEqual(place_of(nested(4, FAR), found), 2)
        self.assertEqual(place_of((0,) * 100, found), 3)


class TestSumAndSize(unittest.TestCase):
    def test_sum(self):
        cases = [
            (0, 0), (7, 7), (-7, -7), (HUGE, HUGE), ((), 0), ((5,), 5), ((1, 2, 3), 6), ((1, -1), 0), (((), ()), 0),
            ((1, (2, (3, (), 4)), (5,)), 15), ((-1, (-2, (-3,))), -6), ((HUGE, (1,)), HUGE + 1),
            (((1, 2), (3, 4), 5), 15),
        ]
        for value, found in cases:
            with self.subTest(value=value):
                self.assertEqual(sum_of(value), found)
                self.assertEqual(apply(("sum",), value), found)
                self.assertIs(type(sum_of(value)), int)

    def test_size(self):
        cases = [
            (0, 0), (7, 0), (-7, 0), (HUGE, 0), ((), 0), ((5,), 1), ((1, 2, 3), 3), (((),), 1), (((1, 2), (3, 4, 5)), 2),
            ((0,) * 64, 64),
        ]
        for value, found in cases:
            with self.subTest(value=value):
                self.assertEqual(size_of(value), found)
                self.assertEqual(apply(("size",), value), found)
                self.assertIs(type(size_of(value)), int)

    def test_beyond_the_limits(self):
        self.assertEqual(sum_of((3,) * 1000), 3000)
        self.assertEqual(sum_of(nested((3, 4), FAR)), 7)
        self.assertEqual(apply(("sum",), nested((3, 4), FAR)), 7)
        self.assertEqual(size_of((3,) * 1000), 1000)
        self.assertEqual(size_of(nested((3, 4), FAR)), 1)
        self.assertEqual(apply(("size",), (3,) * 1000), 1000)


class TestIntegerOperations(unittest.TestCase):
    def test_add(self):
        self.assertEqual(apply(("add", 3), 4), 7)
        self.assertEqual(apply(("add", -1000), 4), -996)
        self.assertEqual(apply(("add", 0), (1, ())), (1, ()))
        self.assertEqual(apply(("add", 3), (1, (2, (-3, ()), 4), ())), (4, (5, (0, ()), 7), ()))
        self.assertEqual(apply(("add", 1), HUGE), HUGE + 1)

    def test_mul(self):
        self.assertEqual(apply(("mul", 3), 4), 12)
        self.assertEqual(apply(("mul", -3), 4), -12)
        self.assertEqual(apply(("mul", 1000), HUGE), 1000 * HUGE)
        self.assertEqual(apply(("mul", 0), (1, (2, 3))), (0, (0, 0)))
        self.assertEqual(apply(("mul", -2), (1, (2, (-3, ()), 4), ())), (-2, (-4, (6, ()), -8), ()))

    def test_mod(self):
        self.assertEqual(apply(("mod", 3), (0, 1, 2, 3, 4, -1, -2, -3, -4)), (0, 1, 2, 0, 1, 2, 1, 0, 2))
        self.assertEqual(apply(("mod", 1), (5, (-5, ()))), (0, (0, ())))
        self.assertEqual(apply(("mod", 1000), -1), 999)
        self.assertEqual(apply(("mod", 1000), -HUGE), 0)
        for by in (1, 2, 7, 1000):
            for number in range(-30, 31):
                found = apply(("mod", by), number)
                self.assertTrue(0 <= found < by)
                self.assertEqual((number - found) // by * by, number - found)

    def test_empty_tuples(self):
        for operation in (("add", 5), ("mul", 5), ("mod", 5)):
            self.assertEqual(apply(operation, ()), ())
            self.assertEqual(apply(operation, ((), ((), ()))), ((), ((), ())))

    def test_order_and_form_stay(self):
        value = (1, (2, 3, (4,), ()), 5, ((6, 7), 8), (), 9)
        self.assertEqual(apply(("add", 0), value), value)
        self.assertEqual(apply(("mul", 1), value), value)
        self.assertEqual(apply(("mod", 10), value), value)
        for small in small_values():
            self.assertEqual(apply(("add", 0), small), small)

    def test_beyond_the_limits(self):
        self.assertEqual(apply(("add", 1), (1,) * 100), (2,) * 100)
        self.assertEqual(unnested(apply(("add", 1), nested(1, FAR))), (2, FAR))
        self.assertEqual(unnested(apply(("mul", 5), nested(2, FAR))), (10, FAR))
        self.assertEqual(unnested(apply(("mod", 5), nested(-1, FAR))), (4, FAR))


class TestTupleOperations(unittest.TestCase):
    def test_example_of_the_document(self):
        self.assertEqual(apply(("flat",), (1, (2, (3,)), ())), (1, 2, (3,)))

    def test_integers_stay(self):
        for operation in (("sort",), ("reverse",), ("flat",)):
            for number in (0, 5, -5, HUGE):
                self.assertEqual(apply(operation, number), number)

    def test_empty_tuple(self):
        for operation in (("sort",), ("reverse",), ("flat",)):
            self.assertEqual(apply(operation, ()), ())

    def test_sort(self):
        self.assertEqual(apply(("sort",), (3, 1, 2, 1)), (1, 1, 2, 3))
        self.assertEqual(apply(("sort",), ((1, 2), (), 10, (9,), 2)), (2, 10, (), (9,), (1, 2)))
        self.assertEqual(apply(("sort",), ((3, 1), (2, 9))), ((2, 9), (3, 1)))
        self.assertEqual(apply(("sort",), tuple(ORDERED[::-1])), tuple(ORDERED))

    def test_reverse(self):
        self.assertEqual(apply(("reverse",), (3, 1, 2)), (2, 1, 3))
        self.assertEqual(apply(("reverse",), ((1, 2), 3, ())), ((), 3, (1, 2)))

    def test_flat(self):
        self.assertEqual(apply(("flat",), (1, 2)), (1, 2))
        self.assertEqual(apply(("flat",), ((1, 2), (3,))), (1, 2, 3))
        self.assertEqual(apply(("flat",), ((), ((),), (((),),))), ((), ((),)))
        self.assertEqual(apply(("flat",), ((5, (6,)), 4, (3,))), (5, (6,), 4, 3))

    def test_results_are_tuples(self):
        for operation in (("sort",), ("reverse",), ("flat",), ("add", 1), ("mul", 2), ("mod", 3)):
            for value in ((), (2, 1), ((2,), 1)):
                self.assertIs(type(apply(operation, value)), tuple)

    def test_beyond_the_limits(self):
        self.assertEqual(apply(("sort",), tuple(range(200, 0, -1))), tuple(range(1, 201)))
        self.assertEqual(apply(("reverse",), tuple(range(200))), tuple(range(199, -1, -1)))
        self.assertEqual(apply(("flat",), ((0,) * 64, (1,) * 64)), (0,) * 64 + (1,) * 64)
        self.assertEqual(unnested(apply(("flat",), nested(3, FAR))), (3, FAR - 1))
        self.assertEqual(unnested(apply(("reverse",), nested(3, FAR))), (3, FAR))
        found = apply(("sort",), (nested(4, FAR), nested(3, FAR)))
        self.assertEqual([unnested(part) for part in found], [(3, FAR), (4, FAR)])


if __name__ == "__main__":
    unittest.main()
