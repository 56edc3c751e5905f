"""Points 19 and 20 and chance/rules.py."""

import itertools
import unittest

from makers import COIN, DIE, EVEN, HUGE, LOST, ONE, SELF, TOP, TWO, X, Y, Maker, made_terms
from chance.checks import holds
from chance.errors import TooLarge
from chance.measure import spread
from chance.rules import apply_rule
from chance.terms import is_term, parts_of, rebuilt

# How many numbers each rule takes, and to which head it applies.
RULES = {
    "pick-weigh": (0, "pick"), "weigh-flat": (1, "weigh"), "weigh-merge": (2, "weigh"), "weigh-swap": (2, "weigh"), "weigh-reduce": (1, "weigh"),
    "weigh-one": (0, "weigh"), "range-weigh": (0, "range"), "map-inside": (0, "map"), "tuple-const": (0, "tuple"), "tuple-at": (1, "tuple"),
    "list-weigh": (0, "list"), "shuffle-weigh": (0, "shuffle"), "keep-inside": (0, "keep"), "let-inside": (0, "let"), "let-unused": (0, "let"),
    "grow-unfold": (0, "grow"),
}
# A term to which each rule applies, and numbers with which it does.
GOOD = {
    "pick-weigh": (("pick", (ONE, TWO)), ()),
    "weigh-flat": (("weigh", ((2, ("weigh", ((3, ONE),))),)), (0,)),
    "weigh-merge": (("weigh", ((2, ONE), (4, ONE))), (0, 1)),
    "weigh-swap": (("weigh", ((2, ONE), (4, TWO))), (0, 1)),
    "weigh-reduce": (("weigh", ((2, ONE), (4, TWO))), (2,)),
    "weigh-one": (("weigh", ((2, ONE),)), ()),
    "range-weigh": (COIN, ()),
    "map-inside": (("map", ("add", 1), ONE), ()),
    "tuple-const": (("tuple", (ONE, TWO)), ()),
    "tuple-at": (("tuple", (ONE, LOST)), (1,)),
    "list-weigh": (("list", 0, 2, ONE), ()),
    "shuffle-weigh": (("shuffle", (1, 2)), ()),
    "keep-inside": (("keep", EVEN, 2, ONE), ()),
    "let-inside": (("let", "x", ONE, X), ()),
    "let-unused": (("let", "x", DIE, ONE), ()),
    "grow-unfold": (("grow", 2, ONE, SELF), ()),
}


def const(value):
    return ("const", value)


def weigh(*pairs):
    return ("weigh", tuple(pairs))


def consts(first, many, weight=1):
    """So many pairs of a weight and an integer."""
    return [(weight, const(number)) for number in range(first, first + many)]


def term_at(term, path):
    """The term at a path that leads somewhere."""
    for at in path:
        term = parts_of(term)[at]
    return term


def changed(term, path, inner):
    """The term with another one at a path."""
    if not path:
        return inner
    parts = parts_of(term)
    parts[path[0]] = changed(parts[path[0]], path[1:], inner)
    return rebuilt(term, parts)


class Ruled(unittest.TestCase):
    def check(self, name, term, numbers, found):
        with self.subTest(name=name, term=term, numbers=numbers):
            before = repr(term)
            self.assertEqual(apply_rule(name, term, numbers), found)
            self.assertEqual(repr(term), before)


class TestAllRules(Ruled):
    def test_good_ones(self):
        self.assertEqual(set(GOOD), set(RULES))
        for name, (term, numbers) in GOOD.items():
            self.assertEqual((len(numbers), term[0]), RULES[name])
            found = apply_rule(name, term, numbers)
            self.assertIs(type(found), tuple)
            self.assertIs(is_term(found), True)

    def test_other_heads(self):
        terms = [term for term, _ in GOOD.values()] + [ONE, LOST, X, ("upto", "x"), SELF]
        for name, (many, head) in RULES.items():
            for term in terms:
                if term[0] != head:
                    for numbers in itertools.product((0, 1, 2), repeat=many):
                        self.check(name, term, numbers, None)

    def test_wrong_number_of_numbers(self):
        for name, (term, numbers) in GOOD.items():
            self.check(name, term, numbers + (0,), None)
            self.check(name, term, numbers + (2,), None)
            self.check(name, term, numbers + numbers + (1,), None)
            if numbers:
                self.check(name, term, numbers[:-1], None)
                self.check(name, term, (), None)
            if len(numbers) == 1:
                self.check(name, term, numbers * 2, None)

    def test_open_terms(self):
        self.check("pick-weigh", ("pick", (X, SELF)), (), weigh((1, X), (1, SELF)))
        self.check("weigh-flat", weigh((2, X), (3, weigh((4, SELF), (5, Y)))), (1,), weigh((18, X), (12, SELF), (15, Y)))
        self.check("weigh-merge", weigh((2, X), (3, SELF), (4, X)), (0, 2), weigh((6, X), (3, SELF)))
        self.check("weigh-merge", weigh((2, X), (4, Y)), (0, 1), None)
        self.check("weigh-merge", weigh((2, X), (4, ("upto", "x"))), (0, 1), None)
        self.check("weigh-swap", weigh((2, X), (4, SELF)), (0, 1), weigh((4, SELF), (2, X)))
        self.check("weigh-reduce", weigh((2, X), (4, SELF)), (2,), weigh((1, X), (2, SELF)))
        self.check("weigh-one", weigh((2, X)), (), X)
        self.check("weigh-one", weigh((2, SELF)), (), SELF)
        self.check("map-inside", ("map", ("add", 1), X), (), None)
        self.check("map-inside", ("map", ("add", 1), weigh((2, X), (3, SELF))), (), weigh((2, ("map", ("add", 1), X)), (3, ("map", ("add", 1), SELF))))
        self.check("tuple-at", ("tuple", (X, LOST, SELF)), (1,), LOST)
        self.check("tuple-at", ("tuple", (X, weigh((2, Y), (1, SELF)))), (1,), weigh((2, ("tuple", (X, Y))), (1, ("tuple", (X, SELF)))))
        self.check("list-weigh", ("list", 1, 2, X), (), weigh((1, ("tuple", (X,))), (1, ("tuple", (X, X)))))
        self.check("keep-inside", ("keep", EVEN, 2, X), (), None)
        self.check("let-inside", ("let", "x", ONE, ("tuple", (X, Y, SELF))), (), ("tuple", (ONE, Y, SELF)))
        self.check("let-inside", ("let", "x", weigh((2, X), (3, Y)), X), (), weigh((2, ("let", "x", X, X)), (3, ("let", "x", Y, X))))
        self.check("let-inside", ("let", "x", X, X), (), None)
        self.check("let-unused", ("let", "x", X, ("tuple", (Y, SELF))), (), ("tuple", (Y, SELF)))
        self.check("let-unused", ("let", "x", ("upto", "x"), Y), (), Y)


class TestBeyondTheLimits(Ruled):
    def test_no_errors(self):
        """Terms somewhat beyond the limits of point 7 are changed as the words say."""
        self.check("pick-weigh", ("pick", ()), (), weigh())
        self.check("range-weigh", ("range", 1, 0), (), weigh())
        self.check("list-weigh", ("list", 1, 0, ONE), (), weigh())
        self.check("list-weigh", ("list", 7, 8, ONE), (), weigh((1, ("tuple", (ONE,) * 7)), (1, ("tuple", (ONE,) * 8))))
        self.check("weigh-one", weigh(), (), None)
        self.check("weigh-flat", weigh(), (0,), None)
        self.check("weigh-swap", weigh((0, ONE), (-1, TWO)), (0, 1), weigh((-1, TWO), (0, ONE)))
        self.check("map-inside", ("map", ("add", 5000), const(1)), (), const(5001))
        self.check("map-inside", ("map", ("add", 1), weigh()), (), weigh())
        self.check("tuple-const", ("tuple", (ONE,) * 70), (), const((1,) * 70))
        self.check("keep-inside", ("keep", ("less", 5), 5, weigh((1, ONE), (1, const(7)))), (), weigh((31, ONE), (1, LOST)))
        self.check("let-inside", ("let", "Name", const((1,) * 70), ("var", "Name")), (), const((1,) * 70))
        self.check("grow-unfold", ("grow", 9, ONE, SELF), (), ("grow", 8, ONE, SELF))


class TestWeigh(Ruled):
    def test_pick_weigh(self):
        self.check("pick-weigh", ("pick", (ONE,)), (), weigh((1, ONE)))
        self.check("pick-weigh", ("pick", (TWO, LOST, TWO, DIE)), (), weigh((1, TWO), (1, LOST), (1, TWO), (1, DIE)))
        self.check("pick-weigh", ("pick", (ONE,) * 64), (), weigh(*[(1, ONE)] * 64))
        self.check("pick-weigh", ("pick", (ONE,) * 65), (), None)

    def test_weigh_flat(self):
        inner = weigh((4, TWO), (1, LOST))
        self.check("weigh-flat", weigh((3, ONE), (2, inner), (6, DIE)), (1,), weigh((15, ONE), (8, TWO), (2, LOST), (30, DIE)))
        self.check("weigh-flat", weigh((2, inner), (6, DIE)), (0,), weigh((8, TWO), (2, LOST), (30, DIE)))
        self.check("weigh-flat", weigh((6, DIE), (2, inner)), (1,), weigh((30, DIE), (8, TWO), (2, LOST)))
        self.check("weigh-flat", weigh((7, inner)), (0,), weigh((28, TWO), (7, LOST)))
        self.check("weigh-flat", weigh((1, inner), (2, inner)), (0,), weigh((4, TWO), (1, LOST), (10, inner)))
        self.check("weigh-flat", weigh((1, weigh((5, inner))), (2, ONE)), (0,), weigh((5, inner), (10, ONE)))
        self.check("weigh-flat", weigh((3, ONE), (2, weigh((5, TWO)))), (1,), weigh((15, ONE), (10, TWO)))

    def test_weigh_flat_conditions(self):
        term = weigh((3, ONE), (2, weigh((4, TWO))), (6, ("pick", (ONE,))), (1, LOST))
        for at in (0, 2, 3, 4, 5, HUGE):
            self.check("weigh-flat", term, (at,), None)
        self.assertIsNotNone(apply_rule("weigh-flat", term, (1,)))
        # No index stands for a place counted from the end.
        self.check("weigh-flat", weigh((3, ONE), (2, weigh((4, TWO)))), (-1,), None)
        self.check("tuple-at", ("tuple", (ONE, LOST)), (-1,), None)
        self.check("weigh-swap", weigh((3, ONE), (2, TWO)), (-1, 0), None)

    def test_weigh_flat_limits(self):
        for inner in (1, 2, 32, 63, 64):
            many = 64 - inner + 1
            self.assertEqual(len(apply_rule("weigh-flat", weigh((1, weigh(*consts(0, inner))), *consts(100, many - 1)), (0,))[1]), 64)
            self.check("weigh-flat", weigh((1, weigh(*consts(0, inner))), *consts(100, many)), (0,), None)
        self.check("weigh-flat", weigh((2, weigh((TOP // 2, ONE)))), (0,), weigh((TOP, ONE)))
        self.check("weigh-flat", weigh((2, weigh((TOP // 2 + 1, ONE)))), (0,), None)
        self.check("weigh-flat", weigh((1, weigh((1, ONE), (1, TWO))), (TOP // 2, TWO)), (0,), weigh((1, ONE), (1, TWO), (TOP, TWO)))
        self.check("weigh-flat", weigh((1, weigh((1, ONE), (1, TWO))), (TOP // 2 + 1, TWO)), (0,), None)
        self.check("weigh-flat", weigh((1, weigh((TOP - 1, ONE), (1, TWO))), (1, TWO)), (0,), weigh((TOP - 1, ONE), (1, TWO), (TOP, TWO)))
        self.check("weigh-flat", weigh((1, weigh((TOP - 1, ONE), (2, TWO))), (1, TWO)), (0,), None)
        self.check("weigh-flat", weigh((1, weigh((TOP, ONE), (TOP, TWO)))), (0,), weigh((TOP, ONE), (TOP, TWO)))

    def test_weigh_merge(self):
        term = weigh((3, ONE), (2, TWO), (5, ONE), (4, LOST), (7, ONE), (1, LOST))
        self.check("weigh-merge", term, (0, 2), weigh((8, ONE), (2, TWO), (4, LOST), (7, ONE), (1, LOST)))
        self.check("weigh-merge", term, (0, 4), weigh((10, ONE), (2, TWO), (5, ONE), (4, LOST), (1, LOST)))
        self.check("weigh-merge", term, (2, 4), weigh((3, ONE), (2, TWO), (12, ONE), (4, LOST), (1, LOST)))
        self.check("weigh-merge", term, (3, 5), weigh((3, ONE), (2, TWO), (5, ONE), (5, LOST), (7, ONE)))
        deep = ("let", "x", DIE, ("tuple", (X, ("const", (1, (2, ()))))))
        self.check("weigh-merge", weigh((1, deep), (2, ("let", "x", DIE, ("tuple", (X, ("const", (1, (2, ())))))))), (0, 1), weigh((3, deep)))

    def test_weigh_merge_conditions(self):
        term = weigh((3, ONE), (3, TWO), (5, ONE), (4, ONE))
        for numbers in ((0, 0), (2, 2), (2, 0), (3, 0), (0, 1), (1, 2), (1, 3), (0, 4), (3, 4), (4, 5), (0, HUGE), (HUGE, HUGE + 1), (4, 0)):
            self.check("weigh-merge", term, numbers, None)
        others = [(ONE, const((1,))), (const(()), ("tuple", ())), (ONE, ("range", 1, 1)), (ONE, const(-1)), (("pick", (ONE,)), ("pick", (ONE, ONE)))]
        others.extend([(("let", "x", ONE, X), ("let", "y", ONE, Y)), (("list", 0, 1, ONE), ("list", 0, 2, ONE)), (DIE, COIN), (LOST, SELF)])
        for one, two in others:
            self.check("weigh-merge", weigh((1, one), (1, two)), (0, 1), None)
            self.check("weigh-merge", weigh((1, two), (1, one)), (0, 1), None)

    def test_weigh_merge_limits(self):
        self.check("weigh-merge", weigh((TOP - 1, ONE), (1, ONE)), (0, 1), weigh((TOP, ONE)))
        self.check("weigh-merge", weigh((TOP, ONE), (1, ONE)), (0, 1), None)
        self.check("weigh-merge", weigh((TOP // 2, ONE), (TOP, TWO), (TOP // 2 + 1, ONE)), (0, 2), None)
        self.check("weigh-merge", weigh((TOP // 2, ONE), (TOP, TWO), (TOP // 2, ONE)), (0, 2), weigh((TOP, ONE), (TOP, TWO)))
        self.assertEqual(len(apply_rule("weigh-merge", weigh(*[(1, ONE)] * 64), (0, 63))[1]), 63)
        self.assertEqual(len(apply_rule("weigh-merge", weigh(*[(1, ONE)] * 65), (0, 64))[1]), 64)

    def test_weigh_swap(self):
        term = weigh((3, ONE), (2, TWO), (5, ONE), (4, LOST))
        self.check("weigh-swap", term, (0, 1), weigh((2, TWO), (3, ONE), (5, ONE), (4, LOST)))
        self.check("weigh-swap", term, (0, 3), weigh((4, LOST), (2, TWO), (5, ONE), (3, ONE)))
        self.check("weigh-swap", term, (2, 3), weigh((3, ONE), (2, TWO), (4, LOST), (5, ONE)))
        self.check("weigh-swap", term, (0, 2), weigh((5, ONE), (2, TWO), (3, ONE), (4, LOST)))
        for numbers in ((0, 0), (3, 3), (1, 0), (3, 0), (0, 4), (3, 4), (4, 4), (4, 5), (0, HUGE)):
            self.check("weigh-swap", term, numbers, None)
        self.check("weigh-swap", weigh((1, ONE)), (0, 1), None)

    def test_weigh_reduce(self):
        term = weigh((12, ONE), (18, TWO), (6, LOST))
        self.check("weigh-reduce", term, (2,), weigh((6, ONE), (9, TWO), (3, LOST)))
        self.check("weigh-reduce", term, (3,), weigh((4, ONE), (6, TWO), (2, LOST)))
        self.check("weigh-reduce", term, (6,), weigh((2, ONE), (3, TWO), (1, LOST)))
        for number in (0, 1, 4, 5, 7, 12, 18, 36, HUGE):
            self.check("weigh-reduce", term, (number,), None)
        self.check("weigh-reduce", weigh((TOP, ONE)), (TOP,), weigh((1, ONE)))
        self.check("weigh-reduce", weigh((TOP, ONE)), (1,), None)
        self.check("weigh-reduce", weigh((4, ONE), (6, TWO)), (4,), None)
        self.check("weigh-reduce", weigh((6, ONE), (4, TWO)), (4,), None)

    def test_weigh_one(self):
        for term in (ONE, LOST, DIE, weigh((2, ONE), (1, TWO)), weigh((2, ONE))):
            for weight in (1, 5, TOP):
                self.check("weigh-one", weigh((weight, term)), (), term)
        self.check("weigh-one", weigh((1, ONE), (1, ONE)), (), None)
        self.check("weigh-one", weigh(*[(1, ONE)] * 64), (), None)


    def test_weigh_merge_of_values_nested_deeper_than_python_nests_calls(self):
        one, two, three = 5, 5, 6
        for _ in range(5000):
            one, two, three = (one,), (two,), (three,)
        found = apply_rule("weigh-merge", weigh((1, const(one)), (2, const(two))), (0, 1))
        self.assertEqual((found[0], len(found[1]), found[1][0][0]), ("weigh", 1, 3))
        self.assertIsNone(apply_rule("weigh-merge", weigh((1, const(one)), (2, const(three))), (0, 1)))


class TestLeaves(Ruled):
    def test_range_weigh(self):
        self.check("range-weigh", ("range", 5, 5), (), weigh((1, const(5))))
        self.check("range-weigh", ("range", -1, 1), (), weigh((1, const(-1)), (1, const(0)), (1, const(1))))
        self.check("range-weigh", ("range", -1000, -937), (), weigh(*consts(-1000, 64)))
        self.check("range-weigh", ("range", 0, 64), (), None)

    def test_shuffle_weigh(self):
        self.check("shuffle-weigh", ("shuffle", ()), (), weigh((1, const(()))))
        self.check("shuffle-weigh", ("shuffle", (7,)), (), weigh((1, const((7,)))))
        self.check("shuffle-weigh", ("shuffle", (7, 5)), (), weigh((1, const((7, 5))), (1, const((5, 7)))))
        orders = [(3, 1, 2), (3, 2, 1), (1, 3, 2), (1, 2, 3), (2, 3, 1), (2, 1, 3)]
        self.check("shuffle-weigh", ("shuffle", (3, 1, 2)), (), weigh(*[(1, const(order)) for order in orders]))
        orders = [
            "abcd", "abdc", "acbd", "acdb", "adbc", "adcb", "bacd", "badc", "bcad", "bcda", "bdac", "bdca",
            "cabd", "cadb", "cbad", "cbda", "cdab", "cdba", "dabc", "dacb", "dbac", "dbca", "dcab", "dcba",
        ]
        numbers = {"a": 9, "b": (), "c": (1, 2), "d": -4}
        found = weigh(*[(1, const(tuple([numbers[letter] for letter in order]))) for order in orders])
        self.check("shuffle-weigh", ("shuffle", (9, (), (1, 2), -4)), (), found)

    def test_shuffle_weigh_with_equal_elements(self):
        self.check("shuffle-weigh", ("shuffle", (4, 4)), (), weigh((1, const((4, 4))), (1, const((4, 4)))))
        orders = [(1, 1, 2), (1, 2, 1), (1, 1, 2), (1, 2, 1), (2, 1, 1), (2, 1, 1)]
        self.check("shuffle-weigh", ("shuffle", (1, 1, 2)), (), weigh(*[(1, const(order)) for order in orders]))
        self.check("shuffle-weigh", ("shuffle", (0, 0, 0, 0)), (), weigh(*[(1, const((0, 0, 0, 0)))] * 24))

    def test_shuffle_weigh_beyond_the_limits(self):
        self.check("shuffle-weigh", ("shuffle", (1, 2, 3, 4, 5)), (), None)
        self.check("shuffle-weigh", ("shuffle", tuple(range(64))), (), None)


class TestParts(Ruled):
    def test_map_inside(self):
        self.check("map-inside", ("map", ("add", 5), const((1, (2,)))), (), const((6, (7,))))
        self.check("map-inside", ("map", ("sum",), const((1, (2,)))), (), const(3))
        self.check("map-inside", ("map", ("flat",), const(((1,), 2, (3, (4,))))), (), const((1, 2, 3, (4,))))
        self.check("map-inside", ("map", ("sum",), LOST), (), LOST)
        summed = weigh((2, ("map", ("sum",), ONE)), (3, ("map", ("sum",), LOST)), (1, ("map", ("sum",), DIE)))
        self.check("map-inside", ("map", ("sum",), weigh((2, ONE), (3, LOST), (1, DIE))), (), summed)
        self.check("map-inside", ("map", ("mod", 2), weigh((TOP, ONE))), (), weigh((TOP, ("map", ("mod", 2), ONE))))
        for part in (DIE, ("pick", (ONE,)), ("tuple", ()), ("shuffle", (1,)), ("map", ("sum",), ONE), ("list", 0, 1, ONE), X, SELF):
            self.check("map-inside", ("map", ("sum",), part), (), None)

    def test_map_inside_limits(self):
        self.assertEqual(len(apply_rule("map-inside", ("map", ("sum",), weigh(*consts(0, 64))), ())[1]), 64)
        self.check("map-inside", ("map", ("sum",), weigh(*consts(0, 65))), (), None)
        self.check("map-inside", ("map", ("sum",), weigh((TOP + 1, ONE))), (), None)

    def test_map_inside_of_values_beyond_the_limits(self):
        self.check("map-inside", ("map", ("flat",), const(((1,) * 64, (2,) * 64))), (), const((1,) * 64 + (2,) * 64))

    def test_tuple_const(self):
        self.check("tuple-const", ("tuple", ()), (), const(()))
        self.check("tuple-const", ("tuple", (ONE,)), (), const((1,)))
        self.check("tuple-const", ("tuple", (TWO, ONE, const((3, ())))), (), const((2, 1, (3, ()))))
        self.check("tuple-const", ("tuple", (ONE,) * 64), (), const((1,) * 64))
        for part in (LOST, DIE, ("range", 1, 1), ("tuple", ()), weigh((1, ONE)), X, SELF):
            self.check("tuple-const", ("tuple", (part,)), (), None)
            self.check("tuple-const", ("tuple", (ONE, part)), (), None)
            self.check("tuple-const", ("tuple", (part, ONE, TWO)), (), None)

    def test_tuple_at(self):
        choice = weigh((2, TWO), (3, LOST), (1, DIE))
        self.check("tuple-at", ("tuple", (LOST,)), (0,), LOST)
        self.check("tuple-at", ("tuple", (ONE, DIE, LOST, TWO)), (2,), LOST)
        self.check("tuple-at", ("tuple", (choice,)), (0,), weigh((2, ("tuple", (TWO,))), (3, ("tuple", (LOST,))), (1, ("tuple", (DIE,)))))
        found = weigh((2, ("tuple", (ONE, TWO, LOST))), (3, ("tuple", (ONE, LOST, LOST))), (1, ("tuple", (ONE, DIE, LOST))))
        self.check("tuple-at", ("tuple", (ONE, choice, LOST)), (1,), found)
        found = weigh((2, ("tuple", (TWO, choice))), (3, ("tuple", (LOST, choice))), (1, ("tuple", (DIE, choice))))
        self.check("tuple-at", ("tuple", (choice, choice)), (0,), found)
        self.check("tuple-at", ("tuple", (ONE, choice)), (1,), weigh((2, ("tuple", (ONE, TWO))), (3, ("tuple", (ONE, LOST))), (1, ("tuple", (ONE, DIE)))))

    def test_tuple_at_conditions(self):
        parts = (ONE, DIE, ("tuple", ()), ("pick", (ONE,)), ("keep", EVEN, 1, ONE), LOST, weigh((1, ONE)), X, SELF)
        for at in range(len(parts)):
            if at not in (5, 6):
                self.check("tuple-at", ("tuple", parts), (at,), None)
        for at in (9, 10, HUGE):
            self.check("tuple-at", ("tuple", parts), (at,), None)
        self.check("tuple-at", ("tuple", ()), (0,), None)
        self.check("tuple-at", ("tuple", (LOST,)), (1,), None)

    def test_tuple_at_limits(self):
        self.assertEqual(len(apply_rule("tuple-at", ("tuple", (weigh(*consts(0, 64)),)), (0,))[1]), 64)
        self.check("tuple-at", ("tuple", (weigh(*consts(0, 65)),)), (0,), None)
        self.check("tuple-at", ("tuple", (weigh((TOP, ONE)),)), (0,), weigh((TOP, ("tuple", (ONE,)))))
        self.check("tuple-at", ("tuple", (weigh((TOP + 1, ONE)),)), (0,), None)

    def test_list_weigh(self):
        self.check("list-weigh", ("list", 0, 0, DIE), (), weigh((1, ("tuple", ()))))
        self.check("list-weigh", ("list", 2, 2, DIE), (), weigh((1, ("tuple", (DIE, DIE)))))
        self.check("list-weigh", ("list", 0, 1, LOST), (), weigh((1, ("tuple", ())), (1, ("tuple", (LOST,)))))
        self.check("list-weigh", ("list", 0, 6, ONE), (), weigh(*[(1, ("tuple", (ONE,) * length)) for length in range(7)]))
        self.check("list-weigh", ("list", 3, 5, ONE), (), weigh(*[(1, ("tuple", (ONE,) * length)) for length in (3, 4, 5)]))

    def test_let_inside(self):
        self.check("let-inside", ("let", "x", const((1,)), ("tuple", (X, ("upto", "x"), Y))), (), ("tuple", (const((1,)), const(0), Y)))
        self.check("let-inside", ("let", "x", const(5), ("tuple", (X, ("upto", "x")))), (), ("tuple", (const(5), ("range", 0, 5))))
        self.check("let-inside", ("let", "x", ONE, ("let", "x", X, X)), (), ("let", "x", ONE, X))
        self.check("let-inside", ("let", "x", ONE, TWO), (), TWO)
        self.check("let-inside", ("let", "x", LOST, X), (), LOST)
        self.check("let-inside", ("let", "x", LOST, ONE), (), LOST)
        found = weigh((2, ("let", "x", ONE, X)), (1, ("let", "x", LOST, X)), (4, ("let", "x", DIE, X)))
        self.check("let-inside", ("let", "x", weigh((2, ONE), (1, LOST), (4, DIE)), X), (), found)
        for first in (DIE, ("pick", (ONE,)), ("tuple", ()), ("let", "y", ONE, Y), ("keep", EVEN, 1, ONE), SELF):
            self.check("let-inside", ("let", "x", first, X), (), None)

    def test_let_inside_limits(self):
        self.assertEqual(len(apply_rule("let-inside", ("let", "x", weigh(*consts(0, 64)), X), ())[1]), 64)
        self.check("let-inside", ("let", "x", weigh(*consts(0, 65)), X), (), None)
        self.check("let-inside", ("let", "x", weigh((TOP, ONE)), X), (), weigh((TOP, ("let", "x", ONE, X))))
        self.check("let-inside", ("let", "x", weigh((TOP + 1, ONE)), X), (), None)

    def test_let_unused(self):
        firsts = [
            ONE, DIE, ("pick", (ONE, DIE)), weigh((2, ONE)), ("tuple", (DIE, COIN)), ("list", 0, 6, DIE), ("shuffle", (1, 2)), ("map", ("sum",), DIE),
            ("let", "x", DIE, X), ("let", "y", ONE, ("upto", "y")), ("grow", 2, ONE, TWO), X, Y,
        ]
        for first in firsts:
            self.check("let-unused", ("let", "x", first, TWO), (), TWO)
            self.check("let-unused", ("let", "x", first, ("keep", EVEN, 1, Y)), (), ("keep", EVEN, 1, Y))

    def test_let_unused_variables(self):
        for last in (X, ("upto", "x"), ("tuple", (ONE, X)), ("let", "y", X, ONE), ("let", "x", X, ONE), ("let", "x", ("upto", "x"), X)):
            self.check("let-unused", ("let", "x", DIE, last), (), None)
            self.check("let-unused", ("let", "x", DIE, ("list", 0, 1, ("tuple", (ONE, last)))), (), None)
        for last in (Y, ("let", "x", ONE, X), ("let", "x", Y, ("tuple", (X, ("upto", "x")))), ("var", "xx"), ("upto", "y")):
            self.check("let-unused", ("let", "x", DIE, last), (), last)

    def test_let_unused_with_a_first_part_that_may_be_lost(self):
        wrappers = [
            lambda term: ("pick", (ONE, term)), lambda term: weigh((1, ONE), (1, term)), lambda term: ("tuple", (ONE, term, TWO)),
            lambda term: ("list", 0, 2, term), lambda term: ("map", ("sum",), term), lambda term: ("let", "y", term, ONE),
            lambda term: ("let", "y", ONE, term), lambda term: ("grow", 1, term, ONE), lambda term: ("grow", 1, ONE, term),
        ]
        for part in (LOST, ("keep", ("size", 0), 4, ONE), SELF):
            self.check("let-unused", ("let", "x", part, TWO), (), None)
            for wrapper in wrappers:
                self.check("let-unused", ("let", "x", wrapper(part), TWO), (), None)
                for further in wrappers:
                    self.check("let-unused", ("let", "x", further(wrapper(part)), TWO), (), None)
        for wrapper in wrappers:
            self.check("let-unused", ("let", "x", wrapper(ONE), TWO), (), TWO)
            self.check("let-unused", ("let", "x", ONE, wrapper(LOST)), (), wrapper(LOST))

    def test_grow_unfold(self):
        add = ("map", ("add", 1), SELF)
        self.check("grow-unfold", ("grow", 0, TWO, add), (), TWO)
        self.check("grow-unfold", ("grow", 1, TWO, add), (), ("map", ("add", 1), ("grow", 0, TWO, add)))
        self.check("grow-unfold", ("grow", 4, TWO, add), (), ("map", ("add", 1), ("grow", 3, TWO, add)))
        self.check("grow-unfold", ("grow", 4, TWO, ONE), (), ONE)
        self.check("grow-unfold", ("grow", 2, ONE, SELF), (), ("grow", 1, ONE, SELF))
        twice = ("tuple", (SELF, ("grow", 1, SELF, SELF)))
        smaller = ("grow", 1, ONE, twice)
        self.check("grow-unfold", ("grow", 2, ONE, twice), (), ("tuple", (smaller, ("grow", 1, smaller, SELF))))
        self.check("grow-unfold", ("grow", 0, SELF, ONE), (), SELF)
        self.check("grow-unfold", ("grow", 1, SELF, add), (), ("map", ("add", 1), ("grow", 0, SELF, add)))
        bound = ("let", "x", SELF, ("tuple", (X, ("upto", "x"), SELF)))
        smaller = ("grow", 0, bound, bound)
        self.check("grow-unfold", ("grow", 1, bound, bound), (), ("let", "x", smaller, ("tuple", (X, ("upto", "x"), smaller))))

    def test_grow_unfold_with_a_free_variable(self):
        for part in (X, ("upto", "x"), ("tuple", (ONE, X)), ("let", "x", X, X), ("let", "y", ONE, X)):
            for size in (0, 1, 4):
                self.check("grow-unfold", ("grow", size, part, ONE), (), None)
                self.check("grow-unfold", ("grow", size, ONE, part), (), None)
                self.check("grow-unfold", ("grow", size, part, part), (), None)


class TestKeepInside(Ruled):
    def test_constants_and_discards(self):
        for tries in (1, 2, 3, 4):
            self.check("keep-inside", ("keep", EVEN, tries, TWO), (), TWO)
            self.check("keep-inside", ("keep", EVEN, tries, ONE), (), LOST)
            self.check("keep-inside", ("keep", EVEN, tries, LOST), (), LOST)
            self.check("keep-inside", ("keep", ("size", 2), tries, const((1, 1))), (), const((1, 1)))

    def test_other_parts(self):
        for part in (DIE, ("pick", (ONE,)), ("tuple", ()), ("keep", EVEN, 1, ONE), ("map", ("sum",), ONE), X, SELF):
            self.check("keep-inside", ("keep", EVEN, 2, part), (), None)
            self.check("keep-inside", ("keep", EVEN, 2, weigh((1, part))), (), None)
            self.check("keep-inside", ("keep", EVEN, 2, weigh((1, TWO), (2, part))), (), None)
            self.check("keep-inside", ("keep", EVEN, 2, weigh((1, part), (2, LOST), (1, ONE))), (), None)
        self.check("keep-inside", ("keep", EVEN, 2, weigh((1, weigh((1, TWO))))), (), None)

    def test_each_number_of_tries(self):
        four = const(4)
        part = weigh((3, TWO), (2, ONE), (1, four), (4, LOST), (5, const(7)))
        # s = 15, f = 7, d = 4.
        self.check("keep-inside", ("keep", EVEN, 1, part), (), weigh((3, TWO), (1, four), (4 + 7, LOST)))
        self.check("keep-inside", ("keep", EVEN, 2, part), (), weigh((66, TWO), (22, four), (88 + 49, LOST)))
        times = 225 + 105 + 49
        self.check("keep-inside", ("keep", EVEN, 3, part), (), weigh((3 * times, TWO), (times, four), (4 * times + 343, LOST)))
        times = 3375 + 1575 + 735 + 343
        self.check("keep-inside", ("keep", EVEN, 4, part), (), weigh((3 * times, TWO), (times, four), (4 * times + 2401, LOST)))

    def test_without_discards(self):
        # f is not 0.
        self.check("keep-inside", ("keep", EVEN, 2, weigh((1, ONE), (2, TWO))), (), weigh((8, TWO), (1, LOST)))
        self.check("keep-inside", ("keep", EVEN, 1, weigh((1, TWO), (2, ONE))), (), weigh((1, TWO), (2, LOST)))

    def test_where_all_constants_pass(self):
        for tries, times in ((1, 1), (2, 7), (3, 49), (4, 343)):
            self.check("keep-inside", ("keep", EVEN, tries, weigh((3, TWO), (4, const(4)))), (), weigh((3 * times, TWO), (4 * times, const(4))))
            self.check("keep-inside", ("keep", EVEN, tries, weigh((3, TWO), (4, LOST))), (), weigh((3 * times, TWO), (4 * times, LOST)))
            self.check("keep-inside", ("keep", EVEN, tries, weigh((4, LOST), (3, TWO))), (), weigh((3 * times, TWO), (4 * times, LOST)))

    def test_where_no_constant_passes(self):
        for tries, whole in ((1, 7), (2, 49), (3, 343), (4, 2401)):
            self.check("keep-inside", ("keep", EVEN, tries, weigh((3, ONE), (4, const(3)))), (), weigh((whole, LOST)))
            self.check("keep-inside", ("keep", EVEN, tries, weigh((3, ONE), (4, LOST))), (), weigh((whole, LOST)))
            self.check("keep-inside", ("keep", EVEN, tries, weigh((3, LOST), (4, LOST))), (), weigh((whole, LOST)))
            self.check("keep-inside", ("keep", EVEN, tries, weigh((7, ONE))), (), weigh((whole, LOST)))

    def test_equal_constants_stay_apart(self):
        self.check("keep-inside", ("keep", EVEN, 1, weigh((1, TWO), (2, TWO), (1, LOST), (1, LOST))), (), weigh((1, TWO), (2, TWO), (2, LOST)))

    def test_limits(self):
        self.assertEqual(len(apply_rule("keep-inside", ("keep", ("less", 63), 1, weigh(*consts(0, 64))), ())[1]), 64)
        self.assertEqual(len(apply_rule("keep-inside", ("keep", ("less", 64), 1, weigh(*consts(0, 64))), ())[1]), 64)
        self.check("keep-inside", ("keep", ("less", 64), 1, weigh(*consts(0, 65))), (), None)
        self.check("keep-inside", ("keep", EVEN, 1, weigh((TOP, TWO), (TOP, LOST))), (), weigh((TOP, TWO), (TOP, LOST)))
        self.check("keep-inside", ("keep", EVEN, 1, weigh((TOP - 1, ONE), (1, LOST))), (), weigh((TOP, LOST)))
        self.check("keep-inside", ("keep", EVEN, 1, weigh((TOP, ONE), (1, LOST))), (), None)
        self.check("keep-inside", ("keep", EVEN, 3, weigh((10 ** 5, TWO))), (), weigh((TOP, TWO)))
        self.check("keep-inside", ("keep", EVEN, 3, weigh((10 ** 5 + 1, TWO))), (), None)
        self.check("keep-inside", ("keep", EVEN, 3, weigh((10 ** 5, ONE))), (), weigh((TOP, LOST)))
        self.check("keep-inside", ("keep", EVEN, 3, weigh((10 ** 5 + 1, ONE))), (), None)


class TestChances(unittest.TestCase):
    def told(self, term):
        found = spread(term)
        return found.rows(), found.lost

    def steps(self, term):
        """All steps that might apply to a term."""
        waiting = [()]
        found = []
        while waiting:
            path = waiting.pop()
            inner = term_at(term, path)
            waiting.extend([path + (at,) for at in range(len(parts_of(inner)))])
            many = len(parts_of(inner))
            for name, (count, head) in RULES.items():
                if head == inner[0]:
                    numbers = itertools.product(range(min(many, 4) + 2), repeat=count)
                    found.extend([(name, path, row) for row in numbers])
        return found

    def test_rules_keep_the_chances(self):
        """Applies rules one after the other, here and there, to many closed terms."""
        maker = Maker(11)
        counts = dict.fromkeys(RULES, 0)
        for term in made_terms(250):
            try:
                before = self.told(term)
            except TooLarge:
                continue
            for _ in range(12):
                steps = [step for step in self.steps(term) if apply_rule(step[0], term_at(term, step[1]), step[2]) is not None]
                # The rules that put nothing in the place of anything would go on for ever.
                new = [step for step in steps if step[0] != "weigh-swap"]
                if not steps:
                    break
                step = maker.one_of(new or steps)
                text = repr(term)
                inner = term_at(term, step[1])
                made = apply_rule(step[0], inner, step[2])
                found = changed(term, step[1], made)
                if not is_term(found):
                    break
                counts[step[0]] += 1
                if is_term(inner):
                    self.assertIs(is_term(made), True)
                    self.assertEqual(self.told(made), self.told(inner), (step, term))
                self.assertEqual(self.told(found), before, (step, term))
                self.assertEqual(repr(term), text)
                term = found
        for name, count in counts.items():
            self.assertGreater(count, 5, name)

    def test_keep_inside_against_holds(self):
        for weights in itertools.product(range(1, 4), repeat=3):
            for tries in (1, 2, 3, 4):
                for parts in ((ONE, TWO, LOST), (TWO, const(4), LOST), (ONE, const(3), const(4)), (LOST, ONE, LOST)):
                    term = ("keep", EVEN, tries, weigh(*zip(weights, parts)))
                    made = apply_rule("keep-inside", term, ())
                    self.assertEqual(self.told(made), self.told(term))
                    self.assertTrue(all(part == LOST or holds(EVEN, part[1]) for _, part in made[1]))


if __name__ == "__main__":
    unittest.main()
