"""Points 7 to 10 and chance/terms.py."""

import unittest

from chance.errors import Invalid, Refused
from chance.terms import (
    Scope, checked, grown, is_closed, is_formed, is_term, meant_by, named, parts_of, rebuilt, substitute, unfolded, uses,
)

HUGE = 10 ** 40
# More levels than Python nests calls.
FAR = 5000
TOP = 10 ** 15

ONE = ("const", 1)
TWO = ("const", 2)
X, Y, Z = ("var", "x"), ("var", "y"), ("var", "z")
SELF = ("self",)

NO_INTEGERS = [True, False, None, "", "1", b"1", 1.0, 0.5, 1j, (), (1,), [], [1], {}, {1}, object(), int]
OTHER_THINGS = [
    0, 1, -5, True, False, None, "", "const", "discard", b"discard", 1.0, 1j, [], ["discard"], ["const", 1], {},
    {"discard": 1}, set(), {"discard"}, frozenset(), range(3), object(), tuple, len, iter(()), Ellipsis,
]
# One closed term of each head that can be closed on its own.
EACH = [
    ("const", 5), ("discard",), ("range", 1, 6), ("pick", (ONE, TWO)), ("weigh", ((1, ONE), (2, TWO))), ("tuple", (ONE, TWO)),
    ("list", 0, 2, ONE), ("shuffle", (1, 2, 3)), ("map", ("add", 1), ONE), ("keep", ("even",), 2, ONE), ("let", "x", ONE, X),
    ("grow", 2, ONE, ("map", ("add", 1), SELF)),
]
# What puts a term inside another one that is one level deeper; the variable x and the self stay what they are.
WRAPPERS = [
    lambda term: ("pick", (term,)),
    lambda term: ("pick", (ONE, term)),
    lambda term: ("pick", (term, ONE)),
    lambda term: ("weigh", ((3, term),)),
    lambda term: ("weigh", ((3, ONE), (4, term))),
    lambda term: ("weigh", ((3, term), (4, ONE))),
    lambda term: ("tuple", (term,)),
    lambda term: ("tuple", (ONE, term, TWO)),
    lambda term: ("list", 1, 2, term),
    lambda term: ("map", ("mul", 2), term),
    lambda term: ("keep", ("even",), 3, term),
    lambda term: ("let", "y", term, ONE),
    lambda term: ("let", "y", ONE, term),
    lambda term: ("let", "x", term, ONE),
    lambda term: ("grow", 2, term, ONE),
]


def wrapped(wrapper, term, times):
    for _ in range(times):
        term = wrapper(term)
    return term


def nested(inner, levels):
    for _ in range(levels):
        inner = (inner,)
    return inner


def bound(term):
    """The term inside a let of x and a grow, so that x and a self may stand in it."""
    return ("let", "x", ONE, ("grow", 1, ONE, term))


class TestIsTerm(unittest.TestCase):
    def check(self, good, wrong):
        for term in good:
            with self.subTest(term=term):
                self.assertIs(is_term(term), True)
                self.assertIs(checked(term), term)
                for wrapper in WRAPPERS:
                    self.assertIs(is_term(wrapper(term)), True)
        for thing in wrong:
            with self.subTest(thing=thing):
                self.assertIs(is_term(thing), False)
                for wrapper in WRAPPERS:
                    self.assertIs(is_term(wrapper(thing)), False)
                with self.assertRaises(Invalid) as caught:
                    checked(thing)
                self.assertEqual(caught.exception.name, "term")

    def test_each_head(self):
        self.check(EACH, [])

    def test_const(self):
        values = [0, 1, -1, HUGE, -HUGE, (), (1, (2, ())), (0,) * 64, nested(5, 8), nested((), 7)]
        wrong = [True, False, None, "a", b"", 1.0, [], [1], (1, [2]), (1, True), {}, {1}, (0,) * 65, nested(5, 9), ONE]
        self.check([("const", value) for value in values], [("const", thing) for thing in wrong])

    def test_range(self):
        good = [(0, 0), (0, 1), (0, 62), (0, 63), (-1000, -1000), (-1000, -937), (1000, 1000), (1000, 1063), (999, 1062), (-5, 5)]
        wrong = [
            (0, 64), (0, 65), (0, -1), (1, 0), (-1001, -1001), (-1001, -1000), (-1000, -936), (1001, 1001), (1001, 1002),
            (1000, 1064), (1000, 999), (0, HUGE), (-HUGE, 0), (5, -5),
        ]
        self.check([("range",) + pair for pair in good], [("range",) + pair for pair in wrong])
        for thing in NO_INTEGERS:
            self.check([], [("range", thing, 1), ("range", 0, thing), ("range", thing, thing)])

    def test_pick(self):
        good = [(ONE,), (ONE, TWO), (ONE,) * 63, (ONE,) * 64]
        wrong = [(), (ONE,) * 65, (ONE,) * 1000, [ONE], [ONE, TWO], ONE, 1, None, True, {}, "ab", {ONE}, (1,), ((ONE,),)]
        self.check([("pick", parts) for parts in good], [("pick", parts) for parts in wrong])

    def test_weigh(self):
        good = [((1, ONE),), ((1, ONE),) * 63, ((1, ONE),) * 64, ((TOP, ONE), (1, TWO)), ((TOP, ONE),) * 64, ((2, ONE), (TOP - 1, TWO))]
        wrong = [
            (), ((1, ONE),) * 65, ((1, ONE),) * 1000, [(1, ONE)], ([1, ONE],), ((1, ONE), [1, ONE]), ((1,),), ((1, ONE, ONE),),
            ((ONE, 1),), (1, ONE), ((),), (ONE,), ((1, 1),), ((1, [ONE]),), ((1, ["discard"]),), None, 1, True, "ab", {}, {(1, ONE)},
            ((1, ONE), None), ((1, ONE), 5), ("ab",),
        ]
        self.check([("weigh", pairs) for pairs in good], [("weigh", pairs) for pairs in wrong])

    def test_weights(self):
        for weight in (1, 2, TOP - 1, TOP):
            self.check([("weigh", ((weight, ONE),)), ("weigh", ((1, ONE), (weight, TWO)))], [])
        for weight in [0, -1, TOP + 1, HUGE, -HUGE] + NO_INTEGERS:
            self.check([], [("weigh", ((weight, ONE),)), ("weigh", ((1, ONE), (weight, TWO)))])

    def test_tuple(self):
        good = [(), (ONE,), (ONE, TWO), (ONE,) * 63, (ONE,) * 64]
        wrong = [(ONE,) * 65, (ONE,) * 1000, [], [ONE], ONE, 1, None, True, {}, "", "ab", {ONE}, (1,), ((),), ((ONE,),)]
        self.check([("tuple", parts) for parts in good], [("tuple", parts) for parts in wrong])

    def test_list(self):
        good = [(low, high) for low in range(7) for high in range(low, 7)]
        wrong = [(-1, -1), (-1, 0), (-1, 6), (0, 7), (6, 7), (7, 7), (1, 0), (6, 5), (0, HUGE), (-HUGE, 3)]
        self.check([("list", low, high, ONE) for low, high in good], [("list", low, high, ONE) for low, high in wrong])
        for thing in NO_INTEGERS:
            self.check([], [("list", thing, 1, ONE), ("list", 0, thing, ONE), ("list", thing, thing, ONE)])

    def test_shuffle(self):
        good = [(), (1,), (1, 2, 3), (1, 2, 3, 4), (1, 1), ((), (1, (2,))), ((0,) * 64,), nested(5, 8)]
        wrong = [
            (1, 2, 3, 4, 5), (0,) * 64, 0, 5, -1, True, None, "", "ab", [], [1, 2], (1, [2]), (1, True), ((0,) * 65,), nested(5, 9),
            {}, {1}, (1, "a"),
        ]
        self.check([("shuffle", value) for value in good], [("shuffle", value) for value in wrong])

    def test_map(self):
        good = [("sum",), ("size",), ("sort",), ("reverse",), ("flat",)]
        wrong = [
            (), ("add",), ("mul",), ("mod",), ("add", 1, 1), ("mul", 1, 1), ("mod", 1, 1), ("sum", 1), ("size", 1), ("sort", 1),
            ("reverse", 1), ("flat", 1), ("", 1), ("Sum",), ("sub", 1), ("div", 1), ("even",), ("const", 1), (1,), (1, 2), (("sum",),),
            ([],), ({}, 1), ["sum"], ["add", 1], "sum", "add", 1, None, True, {}, {"sum"},
        ]
        self.check([("map", o, ONE) for o in good], [("map", o, ONE) for o in wrong])

    def test_numbers_of_operations(self):
        for head in ("add", "mul"):
            good = [-1000, -999, -1, 0, 1, 999, 1000]
            wrong = [-1001, 1001, HUGE, -HUGE] + NO_INTEGERS
            self.check([("map", (head, n), ONE) for n in good], [("map", (head, n), ONE) for n in wrong])
        wrong = [0, -1, -1000, 1001, HUGE, -HUGE] + NO_INTEGERS
        self.check([("map", ("mod", n), ONE) for n in (1, 2, 999, 1000)], [("map", ("mod", n), ONE) for n in wrong])

    def test_keep(self):
        tests = [("even",), ("equals", (1, 2)), ("not", ("not", ("not", ("not", ("not", ("even",)))))), ("both", ("even",), ("rising",))]
        wrong = [
            (), ("odd",), ["even"], ("even", 1), ("less",), ("less", True), ("equals", [1]), "even", None, True, 1, {}, ONE, ("sum",),
            ("not", ("not", ("not", ("not", ("not", ("not", ("even",))))))),
        ]
        self.check([("keep", test, 2, ONE) for test in tests], [("keep", test, 2, ONE) for test in wrong])
        wrong = [0, -1, 5, HUGE, -HUGE] + NO_INTEGERS
        self.check([("keep", ("even",), n, ONE) for n in (1, 2, 3, 4)], [("keep", ("even",), n, ONE) for n in wrong])

    def test_names(self):
        good = ["a", "z", "x", "ab", "abcdefghijk", "abcdefghijkl", "mnopqrstuvwx", "yz", "let", "self", "in"]
        wrong = [
            "", "abcdefghijklm", "a" * 24, "a" * FAR, "X", "aX", "Xa", "x1", "1", "1x", "x_", "_", "_x", "x y", " x", "x ", "x\n", "x-",
            "\u00e9", "a\u00e9", "\u00df", "\u0430", "\u1d43", "`", "{", "a{", "$x", "@", "x.",
        ]
        for name in good:
            self.check([("let", name, ONE, ONE), ("let", name, ONE, ("var", name)), ("let", name, ONE, ("upto", name))], [])
        for name in wrong + NO_INTEGERS + [1, 0, b"x", ("x",), ["x"]]:
            self.check([], [("let", name, ONE, ONE), ("let", name, ONE, ("var", name)), ("let", name, ONE, ("upto", name))])
            self.check([], [("let", "x", ONE, ("var", name)), ("let", "x", ONE, ("upto", name))])

    def test_free_and_bound_variables(self):
        good = [
            ("let", "x", ONE, X), ("let", "x", ONE, ("upto", "x")), ("let", "x", ONE, ("tuple", (X, ("pick", (X, ("upto", "x")))))),
            ("let", "x", ONE, ("let", "y", X, ("tuple", (X, Y)))), ("let", "x", ONE, ("let", "x", X, X)),
            ("let", "x", ONE, ("tuple", (("let", "x", TWO, X), X))), ("let", "x", ONE, ("grow", 2, X, ("pick", (X, SELF)))),
            ("let", "x", ("let", "x", ONE, X), X), ("tuple", (("let", "x", ONE, X), ("let", "y", ONE, Y))),
        ]
        wrong = [
            X, ("upto", "x"), ("let", "x", X, ONE), ("let", "x", ("upto", "x"), ONE), ("let", "x", X, X), ("let", "x", ONE, Y),
            ("let", "x", ONE, ("upto", "y")), ("let", "y", ONE, ("let", "x", X, Y)), ("tuple", (("let", "x", ONE, X), X)),
            ("tuple", (X, ("let", "x", ONE, X))), ("let", "x", ("let", "y", ONE, Y), Y), ("let", "xx", ONE, X), ("let", "x", ONE, ("var", "xx")),
            ("let", "abc", ONE, ("var", "b")), ("grow", 2, X, ONE), ("grow", 2, ONE, X), ("grow", 2, ("let", "x", ONE, ONE), X),
        ]
        for term in good:
            self.assertIs(is_term(term), True)
        for term in wrong:
            with self.subTest(term=term):
                self.assertIs(is_term(term), False)
        for wrapper in WRAPPERS:
            self.assertIs(is_term(wrapper(X)), False)
            self.assertIs(is_term(wrapper(("upto", "x"))), False)
            self.assertIs(is_term(bound(wrapper(X))), True)
            self.assertIs(is_term(bound(wrapper(("upto", "x")))), True)
            self.assertIs(is_term(bound(wrapper(Z))), False)

    def test_selfs(self):
        inner = ("grow", 1, SELF, ONE)
        good = [
            ("grow", 1, ONE, SELF), ("grow", 0, ONE, SELF), ("grow", 1, ONE, ("tuple", (SELF, SELF))),
            ("grow", 1, ONE, ("grow", 1, ONE, SELF)), ("grow", 1, ONE, inner), ("grow", 1, ONE, ("grow", 1, SELF, SELF)),
            ("grow", 1, ONE, ("grow", 1, inner, ONE)), ("grow", 1, ONE, ("grow", 1, ONE, inner)),
            ("grow", 1, ("grow", 1, ONE, SELF), ONE), ("grow", 1, ONE, ("let", "x", SELF, SELF)),
        ]
        wrong = [
            SELF, ("grow", 1, SELF, ONE), ("grow", 1, SELF, SELF), ("grow", 0, SELF, ONE), ("tuple", (SELF,)),
            ("tuple", (("grow", 1, ONE, SELF), SELF)), ("grow", 1, ("grow", 1, SELF, ONE), ONE), ("grow", 1, ("grow", 1, SELF, ONE), SELF),
            ("let", "x", SELF, ONE), ("let", "x", ONE, SELF), ("let", "self", ONE, SELF), ("grow", 1, ("tuple", (SELF,)), SELF),
        ]
        self.check([], wrong[1:])
        self.check(good, [])
        self.assertIs(is_term(SELF), False)
        for wrapper in WRAPPERS:
            self.assertIs(is_term(wrapper(SELF)), False)
            self.assertIs(is_term(("grow", 1, wrapper(SELF), ONE)), False)
            self.assertIs(is_term(("grow", 1, ONE, wrapper(SELF))), True)
            self.assertIs(is_term(("grow", 1, ONE, ("grow", 1, wrapper(SELF), ONE))), True)

    def test_sizes_of_grow(self):
        wrong = [-1, 5, HUGE, -HUGE] + NO_INTEGERS
        self.check([("grow", n, ONE, SELF) for n in range(5)], [("grow", n, ONE, SELF) for n in wrong])

    def test_depth(self):
        for wrapper in WRAPPERS + [lambda term: ("grow", 1, ONE, term)]:
            for term in EACH:
                levels = 1 if parts_of(term) == [] else 3 if SELF in term[-1] else 2
                with self.subTest(term=term, like=wrapper(ONE)):
                    self.assertIs(is_term(wrapped(wrapper, term, 23 - levels)), True)
                    self.assertIs(is_term(wrapped(wrapper, term, 24 - levels)), True)
                    self.assertIs(is_term(wrapped(wrapper, term, 25 - levels)), False)
                    self.assertIs(is_term(wrapped(wrapper, term, 26 - levels)), False)
                    self.assertIs(is_term(wrapped(wrapper, term, FAR)), False)

    def test_depth_of_terms_without_terms_inside(self):
        for term in (("tuple", ()), ("shuffle", ()), ("const", nested(5, 8)), ("discard",), ("range", 0, 1)):
            self.assertIs(is_term(wrapped(WRAPPERS[0], term, 23)), True)
            self.assertIs(is_term(wrapped(WRAPPERS[0], term, 24)), False)
        for term in (X, ("upto", "x"), SELF):
            self.assertIs(is_term(bound(wrapped(WRAPPERS[0], term, 21))), True)
            self.assertIs(is_term(bound(wrapped(WRAPPERS[0], term, 22))), False)

    def test_missing_and_spare_items(self):
        for term in EACH:
            self.check([], [term[:-1]])
            for spare in (0, (), ONE, None):
                self.check([], [term + (spare,)])
        for term in (X, ("upto", "x"), SELF):
            self.assertIs(is_term(bound(term)), True)
            for thing in (term[:-1], term + (0,), term + (ONE,), term + ("x",), list(term)):
                self.assertIs(is_term(bound(thing)), False)

    def test_lists_in_the_place_of_tuples(self):
        self.check([], [list(term) for term in EACH])

    def test_unknown_heads(self):
        heads = ["", "Const", "CONST", "const ", "even", "sum", "add", "grown", "x", 0, True, None, b"const", (), ("const",), [], {}, 1.0, object()]
        for head in heads:
            self.check([], [(head,), (head, 1), (head, ONE), (head, 1, 2), (head, 1, 2, ONE), (head, "x", ONE, ONE)])

    def test_things_of_any_other_kind(self):
        self.check([], OTHER_THINGS + [(), ((),), (ONE,), (ONE, TWO), nested(ONE, FAR)])

    def test_a_list_in_itself(self):
        knot = ["tuple"]
        knot.append((knot,))
        self.check([], [knot, ("const", (knot,)), ("tuple", knot)])

    def test_checked_raises_a_refused(self):
        with self.assertRaises(Refused):
            checked(("const",))

    def test_argument_unchanged(self):
        inner = ["const", 1]
        is_term(("tuple", (inner,)))
        self.assertEqual(inner, ["const", 1])


class TestParts(unittest.TestCase):
    def test_each_head(self):
        cases = [
            (("const", (1, 2)), []), (("discard",), []), (("range", 0, 3), []), (("shuffle", (1, 2)), []), (X, []), (("upto", "x"), []),
            (SELF, []), (("tuple", ()), []), (("pick", (ONE, X, ONE)), [ONE, X, ONE]), (("weigh", ((5, X), (4, ONE))), [X, ONE]),
            (("tuple", (TWO, ONE)), [TWO, ONE]), (("list", 0, 2, X), [X]), (("map", ("add", 1), X), [X]),
            (("keep", ("equals", 3), 2, X), [X]), (("let", "x", ONE, X), [ONE, X]), (("grow", 3, ONE, SELF), [ONE, SELF]),
            (("map", ("sum",), ("tuple", (ONE, TWO))), [("tuple", (ONE, TWO))]),
        ]
        for term, parts in cases:
            with self.subTest(term=term):
                found = parts_of(term)
                self.assertEqual(found, parts)
                self.assertIs(type(found), list)
                self.assertEqual(rebuilt(term, found), term)

    def test_list_is_a_new_one(self):
        for term in EACH:
            found = parts_of(term)
            found.append(TWO)
            self.assertEqual(len(parts_of(term)), len(found) - 1)

    def test_rebuilt(self):
        for wrapper in WRAPPERS:
            for at, part in enumerate(parts_of(wrapper(Z))):
                if part == Z:
                    parts = parts_of(wrapper(ONE))
                    parts[at] = X
                    self.assertEqual(rebuilt(wrapper(ONE), parts), wrapper(X))


class TestUsesAndIsClosed(unittest.TestCase):
    def test_leaves(self):
        for term in (("const", 5), ("discard",), ("range", 0, 3), ("shuffle", (1, 2)), SELF, ("tuple", ())):
            self.assertIs(uses(term, "x"), False)
            self.assertIs(is_closed(term), True)
        for term in (X, ("upto", "x")):
            self.assertIs(uses(term, "x"), True)
            self.assertIs(uses(term, "y"), False)
            self.assertIs(uses(term, "xx"), False)
            self.assertIs(is_closed(term), False)
            self.assertIs(is_closed(term, ("x",)), True)
            self.assertIs(is_closed(term, ("y", "x")), True)
            self.assertIs(is_closed(term, ("y", "xx", "")), False)
            self.assertIs(is_closed(term, ["x"]), True)

    def test_below_each_head(self):
        for wrapper in WRAPPERS:
            for leaf in (Z, ("upto", "z")):
                term = wrapper(wrapper(leaf))
                with self.subTest(term=term):
                    self.assertIs(uses(term, "z"), True)
                    self.assertIs(uses(term, "x"), False)
                    self.assertIs(uses(term, "y"), False)
                    self.assertIs(is_closed(term), False)
                    self.assertIs(is_closed(term, ("z",)), True)
                    self.assertIs(is_closed(term, ("x", "y")), False)
            self.assertIs(uses(wrapper(ONE), "z"), False)
            self.assertIs(is_closed(wrapper(ONE)), True)
        for term in (("grow", 2, ONE, Z), ("grow", 2, Z, SELF), ("grow", 2, ONE, ("tuple", (SELF, Z)))):
            self.assertIs(uses(term, "z"), True)
            self.assertIs(is_closed(term), False)
            self.assertIs(is_closed(term, ("z",)), True)

    def test_lets(self):
        cases = [
            (("let", "x", ONE, X), False), (("let", "x", ONE, ("upto", "x")), False), (("let", "x", X, X), True),
            (("let", "x", ("upto", "x"), ONE), True), (("let", "y", ONE, X), True), (("let", "y", X, ONE), True),
            (("let", "x", ONE, ("tuple", (X, ("let", "y", X, X)))), False), (("let", "x", ("let", "x", ONE, X), X), False),
            (("let", "y", ONE, ("let", "x", X, ONE)), True), (("let", "y", ONE, ("let", "x", Y, X)), False),
            (("tuple", (("let", "x", ONE, X), X)), True), (("let", "xx", ONE, X), True),
        ]
        for term, free in cases:
            with self.subTest(term=term):
                self.assertIs(uses(term, "x"), free)
                self.assertIs(uses(term, "y"), False)
                self.assertIs(is_closed(term), not free)
                self.assertIs(is_closed(term, ("x",)), True)

    def test_all_free_variables_are_asked_for(self):
        term = ("tuple", (X, ("let", "y", Z, Y)))
        self.assertIs(is_closed(term, ("x", "z")), True)
        self.assertIs(is_closed(term, ("x",)), False)
        self.assertIs(is_closed(term, ("z",)), False)
        self.assertIs(is_closed(term, ("x", "y")), False)

    def test_names_stay(self):
        names = ["x"]
        self.assertIs(is_closed(("let", "y", X, ("tuple", (X, Y))), names), True)
        self.assertEqual(names, ["x"])
        self.assertIs(is_closed(("tuple", (("let", "y", ONE, Y), Y)), names), False)

    def test_self_does_not_matter(self):
        for term in (SELF, ("grow", 1, SELF, SELF), ("let", "x", SELF, X), ("tuple", (SELF, ONE))):
            self.assertIs(is_closed(term), True)
            self.assertIs(uses(term, "self"), False)
        self.assertIs(is_closed(("tuple", (SELF, X))), False)


class TestSubstitute(unittest.TestCase):
    def test_example_of_the_document(self):
        found = substitute(("tuple", (("var", "x"), ("upto", "x"))), "x", 3)
        self.assertEqual(found, ("tuple", (("const", 3), ("range", 0, 3))))

    def test_leaves(self):
        for term in (("const", 5), ("discard",), ("range", 0, 3), ("shuffle", (1, 2)), SELF, ("tuple", ()), Y, ("upto", "y"), ("var", "xx")):
            self.assertEqual(substitute(term, "x", 3), term)

    def test_values(self):
        for value in (0, 5, 63, 64, -1, HUGE, -HUGE, (), (5,), (1, (2,)), (0,) * 100):
            self.assertEqual(substitute(X, "x", value), ("const", value))
            self.assertEqual(substitute(Y, "x", value), Y)
            self.assertEqual(substitute(("upto", "y"), "x", value), ("upto", "y"))
        for value in (0, 1, 5, 62, 63):
            self.assertEqual(substitute(("upto", "x"), "x", value), ("range", 0, value))
        for value in (64, 65, -1, -63, HUGE, -HUGE, (), (5,), ((),), (1, 2)):
            self.assertEqual(substitute(("upto", "x"), "x", value), ("const", 0))

    def test_below_each_head(self):
        for wrapper in WRAPPERS:
            term = wrapper(wrapper(("tuple", (Z, ("upto", "z"), X, Y, SELF))))
            with self.subTest(term=term):
                found = substitute(term, "z", 7)
                self.assertEqual(found, wrapper(wrapper(("tuple", (("const", 7), ("range", 0, 7), X, Y, SELF)))))
                self.assertEqual(substitute(term, "w", 7), term)
        term = ("grow", 2, Z, ("tuple", (Z, SELF)))
        self.assertEqual(substitute(term, "z", (4,)), ("grow", 2, ("const", (4,)), ("tuple", (("const", (4,)), SELF))))

    def test_several_places(self):
        term = ("pick", (X, ("weigh", ((2, X), (3, ("upto", "x")))), Y, ("tuple", (X, X))))
        four = ("const", 4)
        expected = ("pick", (four, ("weigh", ((2, four), (3, ("range", 0, 4)))), Y, ("tuple", (four, four))))
        self.assertEqual(substitute(term, "x", 4), expected)

    def test_lets(self):
        four = ("const", 4)
        cases = [
            (("let", "x", ONE, X), ("let", "x", ONE, X)),
            (("let", "x", ONE, ("upto", "x")), ("let", "x", ONE, ("upto", "x"))),
            (("let", "x", X, X), ("let", "x", four, X)),
            (("let", "x", ("upto", "x"), ("upto", "x")), ("let", "x", ("range", 0, 4), ("upto", "x"))),
            (("let", "y", X, X), ("let", "y", four, four)),
            (("let", "y", ONE, ("let", "x", X, ("tuple", (X, Y)))), ("let", "y", ONE, ("let", "x", four, ("tuple", (X, Y))))),
            (("let", "x", ONE, ("let", "y", X, X)), ("let", "x", ONE, ("let", "y", X, X))),
            (("let", "x", ("let", "x", X, X), X), ("let", "x", ("let", "x", four, X), X)),
            (("tuple", (("let", "x", ONE, X), X)), ("tuple", (("let", "x", ONE, X), four))),
            (("let", "xx", ONE, X), ("let", "xx", ONE, four)),
        ]
        for term, expected in cases:
            with self.subTest(term=term):
                self.assertEqual(substitute(term, "x", 4), expected)

    def test_nothing_is_free_afterwards(self):
        for wrapper in WRAPPERS:
            self.assertIs(uses(substitute(wrapper(X), "x", 2), "x"), False)


class TestUnfolded(unittest.TestCase):
    def test_example_of_the_document(self):
        found = unfolded(("grow", 2, ("const", 0), ("map", ("add", 1), ("self",))))
        self.assertEqual(found, ("map", ("add", 1), ("grow", 1, ("const", 0), ("map", ("add", 1), ("self",)))))

    def test_size_zero(self):
        for first in (ONE, X, ("tuple", (ONE, SELF)), ("grow", 1, ONE, SELF)):
            self.assertEqual(unfolded(("grow", 0, first, ("tuple", (SELF,)))), first)

    def test_sizes(self):
        for size in range(1, 5):
            self.assertEqual(unfolded(("grow", size, ONE, SELF)), ("grow", size - 1, ONE, SELF))
            self.assertEqual(unfolded(("grow", size, ONE, TWO)), TWO)

    def test_below_each_head(self):
        for wrapper in WRAPPERS:
            last = wrapper(wrapper(("tuple", (SELF, X, SELF))))
            smaller = ("grow", 2, TWO, last)
            with self.subTest(last=last):
                self.assertEqual(unfolded(("grow", 3, TWO, last)), wrapper(wrapper(("tuple", (smaller, X, smaller)))))

    def test_self_below_an_inner_grow(self):
        last = ("tuple", (SELF, ("grow", 2, ("tuple", (SELF, ONE)), ("tuple", (SELF, TWO)))))
        smaller = ("grow", 0, X, last)
        expected = ("tuple", (smaller, ("grow", 2, ("tuple", (smaller, ONE)), ("tuple", (SELF, TWO)))))
        self.assertEqual(unfolded(("grow", 1, X, last)), expected)

    def test_self_below_two_inner_grows(self):
        last = ("grow", 2, ("grow", 1, SELF, SELF), ("grow", 3, SELF, SELF))
        smaller = ("grow", 3, ONE, last)
        expected = ("grow", 2, ("grow", 1, smaller, SELF), ("grow", 3, SELF, SELF))
        self.assertEqual(unfolded(("grow", 4, ONE, last)), expected)

    def test_self_in_the_third_item_belongs_further_outside(self):
        last = ("tuple", (SELF, TWO))
        smaller = ("grow", 0, SELF, last)
        self.assertEqual(unfolded(("grow", 1, SELF, last)), ("tuple", (smaller, TWO)))

    def test_a_variable_called_self_is_no_self(self):
        for leaf in (("var", "self"), ("upto", "self")):
            last = ("let", "self", SELF, leaf)
            self.assertEqual(unfolded(("grow", 2, ONE, last)), ("let", "self", ("grow", 1, ONE, last), leaf))
            self.assertEqual(unfolded(("grow", 2, ONE, leaf)), leaf)
            self.assertEqual(substitute(("tuple", (SELF, ("var", "self"))), "self", 4), ("tuple", (SELF, ("const", 4))))
            self.assertIs(is_term(("let", "self", ONE, leaf)), True)

    def test_lets_do_not_matter(self):
        last = ("let", "x", SELF, ("tuple", (SELF, X)))
        smaller = ("grow", 1, ONE, last)
        self.assertEqual(unfolded(("grow", 2, ONE, last)), ("let", "x", smaller, ("tuple", (smaller, X))))


class TestIsFormed(unittest.TestCase):
    def test_open_terms(self):
        for term in EACH + [X, ("upto", "x"), SELF, ("let", "x", X, Y), ("grow", 1, SELF, X)]:
            levels = 2 if parts_of(term) else 1
            if term[0] == "grow" and parts_of(term[3]):
                levels = 3
            self.assertIs(is_formed(term, levels), True)
            self.assertIs(is_formed(term, levels - 1), False)
        for thing in (("const",), ("pick", ()), ("var", "X"), None, 5, ["self"], ("self", 1)):
            self.assertIs(is_formed(thing, 24), False)


class TestScope(unittest.TestCase):
    def test_variables(self):
        outer = Scope({"x": 3}, None)
        inner = named(named(outer, "y", (1,)), "x", 64)
        self.assertEqual(meant_by(X, outer), (("const", 3), outer))
        self.assertEqual(meant_by(("upto", "x"), outer), (("range", 0, 3), outer))
        self.assertEqual(meant_by(X, inner), (("const", 64), inner))
        self.assertEqual(meant_by(("upto", "x"), inner), (("const", 0), inner))
        self.assertEqual(meant_by(Y, inner), (("const", (1,)), inner))
        self.assertEqual(outer.names, {"x": 3})

    def test_selfs(self):
        term = ("grow", 2, ONE, ("tuple", (SELF, X)))
        outer = Scope({"x": 3}, None)
        inner = named(grown(outer, term), "x", 4)
        meant, scope = meant_by(SELF, inner)
        self.assertEqual((meant, scope), (("grow", 1, ONE, ("tuple", (SELF, X))), outer))
        self.assertEqual(meant_by(X, inner), (("const", 4), inner))
        self.assertEqual(meant_by(X, scope), (("const", 3), outer))

    def test_other_terms(self):
        scope = Scope({}, None)
        for term in EACH:
            self.assertEqual(meant_by(term, scope), (term, scope))


if __name__ == "__main__":
    unittest.main()
