"""Points 22 and 29 and chance/normal.py."""

import math
import unittest
from fractions import Fraction
from functools import cmp_to_key

from makers import COIN, DIE, EVEN, HUGE, LOST, NO_TERMS, ONE, SELF, TOP, TWO, X, Y, Maker, chain, made_terms, steps
from chance.errors import Invalid, TooLarge
from chance.logs import is_step, replay
from chance.measure import spread
from chance.normal import normal, same_chances
from chance.tapes import paths
from chance.terms import is_closed, is_term, parts_of
from chance.values import compare

THREE = ("const", 3)
ZERO = ("const", 0)


def bounds(term, smaller=(1, 1, 1)):
    """The bounds of point 29: of runs, evaluations and levels; those of a self are given."""
    head = term[0]
    if head == "self":
        return smaller
    if head == "grow":
        _, size, first, last = term
        runs, work, levels = bounds(first, smaller)
        found = (runs, work + 1, levels + 1)
        for _ in range(size):
            runs, work, levels = bounds(last, found)
            found = (runs, work + 1, levels + 1)
        return found
    parts = [bounds(part, smaller) for part in parts_of(term)]
    runs = [part[0] for part in parts]
    work = [part[1] for part in parts]
    levels = 1 + max([part[2] for part in parts], default=0)
    if head in ("const", "discard", "var"):
        return (1, 1, 1)
    if head == "upto":
        return (64, 1, 1)
    if head == "range":
        return (term[2] - term[1] + 1, 1, 1)
    if head == "shuffle":
        return (math.factorial(len(term[1])), 1, 1)
    if head == "pick":
        return (sum(runs), 1 + sum(work), levels)
    if head == "weigh":
        return (sum(weight * many for (weight, _), many in zip(term[1], runs)), 1 + sum(work), levels)
    if head == "tuple":
        return (math.prod(runs), 1 + sum(work), levels)
    if head == "map":
        return (runs[0], 1 + work[0], levels)
    if head == "list":
        return (sum(runs[0] ** length for length in range(term[1], term[2] + 1)), 1 + max(1, term[2]) * work[0], levels)
    if head == "keep":
        return (runs[0] ** term[2], 1 + term[2] * work[0], levels)
    return (runs[0] * runs[1], 1 + work[0] + runs[0] * work[1], levels)


def is_small(term):
    runs, work, levels = bounds(term)
    return runs <= 24 and work <= 150 and levels <= 8


def expected(term):
    """The normal form, from the paths of the term."""
    shares = {}
    for _, sizes, value in paths(term):
        shares[value] = shares.get(value, 0) + Fraction(1, math.prod(sizes))
    lost = shares.pop(None, None)
    values = sorted(shares, key=cmp_to_key(compare))
    pairs = [(shares[value], ("const", value)) for value in values] + ([(lost, LOST)] if lost else [])
    if len(pairs) == 1:
        return pairs[0][1]
    whole = math.lcm(*[share.denominator for share, _ in pairs])
    weights = [int(share * whole) for share, _ in pairs]
    common = math.gcd(*weights)
    return ("weigh", tuple([(weight // common, part) for weight, (_, part) in zip(weights, pairs)]))


def is_normal(term):
    """Point 22, word by word."""
    if term[0] in ("const", "discard"):
        return True
    if term[0] != "weigh" or len(term[1]) < 2:
        return False
    parts = [part for _, part in term[1]]
    if LOST in parts[:-1] or any(part[0] != "const" for part in parts[:-1]) or parts[-1][0] not in ("const", "discard"):
        return False
    values = [part[1] for part in parts if part != LOST]
    if any(compare(one, two) >= 0 for one, two in zip(values, values[1:])):
        return False
    return math.gcd(*[weight for weight, _ in term[1]]) == 1


class Normal(unittest.TestCase):
    def check(self, term, form):
        with self.subTest(term=term):
            before = repr(term)
            found = normal(term)
            self.assertIs(type(found), tuple)
            self.assertEqual(len(found), 2)
            self.assertEqual(found[0], form)
            self.assertIs(is_normal(form), True)
            self.assertIs(type(found[1]), list)
            for step in found[1]:
                self.assertIs(is_step(step), True)
            self.assertEqual(replay(term, found[1]), form)
            self.assertEqual(repr(term), before)

    def check_small(self, term, form):
        self.assertIs(is_small(term), True)
        self.check(term, form)

    def check_error(self, thing, kind):
        with self.assertRaises(kind) as caught:
            normal(thing)
        with self.assertRaises(kind):
            same_chances(thing, ONE)
        with self.assertRaises(kind):
            same_chances(ONE, thing)
        return caught.exception.name


class TestForms(Normal):
    def test_terms_that_are_normal(self):
        terms = [
            ONE, LOST, ("const", ()), ("const", (1, (2, HUGE))), ("weigh", ((1, ONE), (1, TWO))), ("weigh", ((1, ONE), (1, LOST))),
            ("weigh", ((2, ("const", -3)), (3, ONE), (2, ("const", ())), (4, ("const", (0,))), (6, LOST))), ("weigh", ((TOP, ONE), (TOP - 1, TWO))),
        ]
        for term in terms:
            self.check(term, term)
            self.assertEqual(normal(term)[1], [])

    def test_each_head(self):
        self.check(("range", 5, 5), ("const", 5))
        self.check(("range", -1, 1), ("weigh", ((1, ("const", -1)), (1, ZERO), (1, ONE))))
        self.check(("pick", (TWO, LOST, ONE, TWO)), ("weigh", ((1, ONE), (2, TWO), (1, LOST))))
        self.check(("pick", (TWO,)), TWO)
        self.check(("weigh", ((4, TWO), (2, ONE), (6, LOST), (2, TWO))), ("weigh", ((1, ONE), (3, TWO), (3, LOST))))
        self.check(("weigh", ((7, TWO),)), TWO)
        self.check(("weigh", ((7, LOST), (2, LOST))), LOST)
        self.check(("weigh", ((1, ("weigh", ((1, ONE), (2, TWO)))), (2, COIN))), ("weigh", ((3, ZERO), (4, ONE), (2, TWO))))
        self.check(("tuple", ()), ("const", ()))
        self.check(("tuple", (ONE, ("tuple", (TWO,)))), ("const", (1, (2,))))
        self.check(("tuple", (COIN, ("pick", (ONE, LOST)))), ("weigh", ((1, ("const", (0, 1))), (1, ("const", (1, 1))), (2, LOST))))
        self.check(("tuple", (COIN, LOST)), LOST)
        self.check(("tuple", (LOST, COIN)), LOST)
        self.check(("list", 0, 0, DIE), ("const", ()))
        self.check(("list", 1, 1, COIN), ("weigh", ((1, ("const", (0,))), (1, ("const", (1,))))))
        self.check(("list", 0, 1, COIN), ("weigh", ((2, ("const", ())), (1, ("const", (0,))), (1, ("const", (1,))))))
        self.check(("list", 0, 3, LOST), ("weigh", ((1, ("const", ())), (3, LOST))))
        self.check(("shuffle", ()), ("const", ()))
        self.check(("shuffle", (1, 1)), ("const", (1, 1)))
        self.check(("shuffle", (2, 1, 2)), ("weigh", ((1, ("const", (1, 2, 2))), (1, ("const", (2, 1, 2))), (1, ("const", (2, 2, 1))))))
        self.check(("map", ("mod", 2), DIE), ("weigh", ((1, ZERO), (1, ONE))))
        self.check(("map", ("mod", 1), DIE), ZERO)
        self.check(("map", ("sum",), LOST), LOST)
        self.check(("keep", EVEN, 1, TWO), TWO)
        self.check(("keep", EVEN, 3, ONE), LOST)
        self.check(("keep", EVEN, 3, LOST), LOST)
        self.check(("keep", EVEN, 2, ("range", 1, 3)), ("weigh", ((5, TWO), (4, LOST))))
        self.check(("keep", EVEN, 4, ("pick", (TWO, LOST))), ("weigh", ((1, TWO), (1, LOST))))
        self.check(("let", "x", COIN, ("tuple", (X, X))), ("weigh", ((1, ("const", (0, 0))), (1, ("const", (1, 1))))))
        self.check(("let", "x", COIN, ("upto", "x")), ("weigh", ((3, ZERO), (1, ONE))))
        self.check(("let", "x", ("pick", (ONE, LOST)), TWO), ("weigh", ((1, TWO), (1, LOST))))
        self.check(("let", "x", DIE, TWO), TWO)
        self.check(("let", "x", LOST, TWO), LOST)
        self.check(("grow", 0, TWO, SELF), TWO)
        self.check(("grow", 4, TWO, ("map", ("add", 1), SELF)), ("const", 6))
        self.check(("grow", 4, LOST, ("pick", (ONE, SELF))), ("weigh", ((15, ONE), (1, LOST))))

    def test_always_never_and_sometimes_discarded(self):
        for lost in (LOST, ("keep", EVEN, 2, ONE), ("list", 1, 2, LOST), ("weigh", ((3, LOST),)), ("let", "x", LOST, X), ("grow", 2, LOST, SELF)):
            self.check(lost, LOST)
            self.check(("tuple", (COIN, lost, COIN)), LOST)
            self.check(("map", ("sum",), lost), LOST)
            self.check(("pick", (lost, ONE)), ("weigh", ((1, ONE), (1, LOST))))
            self.check(("pick", (lost, lost, LOST)), LOST)
            self.check(("let", "x", ("pick", (lost, COIN)), X), ("weigh", ((1, ZERO), (1, ONE), (2, LOST))))

    def test_values_of_all_kinds_in_order(self):
        values = [-HUGE, -1, 0, 7, (), (5,), ((),), (0, 0), (0, (1,)), (1, 0)]
        parts = tuple([("const", value) for value in values[::-1]])
        form = ("weigh", tuple([(1, ("const", value)) for value in values]))
        self.check(("pick", parts), form)
        self.check(("pick", parts[3:] + parts[:3]), form)
        self.check(("pick", (LOST,) + parts[::2] + (LOST,) + parts[1::2]), ("weigh", form[1] + ((2, LOST),)))

    def test_many_terms(self):
        many = 0
        for term in made_terms(1500):
            try:
                form = expected(term)
            except TooLarge:
                continue
            if not is_small(term):
                continue
            many += 1
            self.check(term, form)
        self.assertGreater(many, 800)

    def test_terms_beyond_the_limits(self):
        """Where there is a result, it is right."""
        many = 0
        for term in made_terms(1500):
            if is_small(term):
                continue
            try:
                form = expected(term)
                found, log = normal(term)
            except TooLarge:
                continue
            many += 1
            self.assertEqual(found, form)
            self.assertEqual(replay(term, log), form)
        self.assertGreater(many, 200)
        self.check(("list", 6, 6, COIN), expected(("list", 6, 6, COIN)))
        self.check(("range", 0, 63), expected(("range", 0, 63)))
        self.check(("map", ("sum",), ("list", 2, 2, DIE)), expected(("map", ("sum",), ("list", 2, 2, DIE))))
        self.check(("let", "x", ("range", 0, 63), ("map", ("mod", 5), X)), expected(("map", ("mod", 5), ("range", 0, 63))))


class TestLimits(Normal):
    """Terms at the limits of point 29, for which no TooLarge is allowed."""

    def test_24_runs(self):
        # So that the bounds of this file are right, too: point 14 lists at most so many runs.
        terms = [
            ("range", 1, 24), ("shuffle", (4, 3, 2, 1)), ("pick", tuple([("const", -number) for number in range(24)])), ("pick", (("range", 0, 11),) * 2),
            ("weigh", ((23, ONE), (1, LOST))), ("weigh", ((3, ("range", 0, 6)), (1, ("shuffle", (1, 2))), (1, ONE))), ("tuple", (DIE, ("range", 0, 3))),
            ("tuple", (COIN, COIN, COIN, ("range", 0, 2))), ("tuple", (("shuffle", (1, 2, 3)), COIN, COIN)), ("list", 1, 3, COIN), ("list", 2, 2, ("range", 0, 3)),
            ("list", 0, 6, ("range", 7, 7)), ("keep", EVEN, 4, COIN), ("keep", EVEN, 3, COIN), ("keep", ("less", 2), 2, ("range", 0, 3)),
            ("let", "x", DIE, ("pick", (X, ONE, LOST, ("map", ("add", 6), X)))), ("let", "x", ("range", 0, 11), ("pick", (X, ("tuple", (X,))))),
            ("grow", 3, ZERO, ("pick", (ONE, LOST, SELF))), ("grow", 4, COIN, SELF), ("grow", 2, COIN, ("tuple", (SELF, SELF))), ("grow", 3, ZERO, ("tuple", (COIN, SELF))),
            ("pick", (COIN, ("range", 0, 2), ("range", 0, 4), ("range", 0, 6), ("range", 0, 6))), ("keep", EVEN, 2, ("pick", (COIN, ("pick", (ONE, LOST))))),
            ("map", ("sum",), ("tuple", (COIN, COIN, ("range", 0, 5)))), ("weigh", ((5, ("pick", (ONE, COIN))), (3, ("shuffle", (1, 2))), (3, LOST))),
        ]
        for term in terms:
            runs, _, _ = bounds(term)
            self.assertLessEqual(len(paths(term)), runs)
            self.check_small(term, expected(term))
        self.assertGreater([bounds(term)[0] for term in terms].count(24), 10)

    def test_unequal_denominators(self):
        term = ONE
        for number in range(6):
            term = ("pick", (term, ("range", number, number + 2)))
        self.check_small(term, expected(term))
        term = ("pick", tuple([("range", 0, size - 1) for size in (2, 3, 4, 5, 7)]))
        self.check_small(term, expected(term))
        self.check_small(("tuple", (("weigh", ((2, ONE), (1, TWO), (1, LOST))), ("weigh", ((1, ONE), (4, TWO))))),
                         expected(("tuple", (("weigh", ((2, ONE), (1, TWO), (1, LOST))), ("weigh", ((1, ONE), (4, TWO)))))))

    def test_150_evaluations(self):
        self.assertEqual(bounds(steps(150))[1], 150)
        self.check_small(steps(150), ("const", spread(steps(150)).rows()[0][0]))
        rows = ("tuple", (ONE,) * 47)
        self.check_small(("tuple", (rows, rows, rows, ("pick", (TWO, ONE)), ONE)), expected(("tuple", (rows, rows, rows, ("pick", (TWO, ONE)), ONE))))
        term = ("list", 2, 2, ("tuple", (ONE,) * 63))
        self.check_small(term, expected(term))
        term = ("let", "x", ("range", 0, 23), ("map", ("mod", 5), ("map", ("add", 1), ("map", ("mul", 2), ("map", ("add", 4), X)))))
        self.check_small(term, expected(term))
        term = ("keep", ("size", 35), 4, ("tuple", (COIN,) + (ONE,) * 34))
        self.check_small(term, expected(term))
        term = ("list", 0, 6, ("tuple", (ONE,) * 23))
        self.check_small(term, expected(term))
        term = ("pick", tuple([("map", ("add", number % 3), ("map", ("mul", 2), ("map", ("add", 1), ("map", ("mod", 4), ("const", number)))))
                               for number in range(24)]))
        self.check_small(term, expected(term))
        term = ("grow", 3, ONE, ("tuple", (SELF,) + (TWO,) * 44))
        self.check_small(term, ("const", spread(term).rows()[0][0]))
        term = ("grow", 3, ONE, ("tuple", (SELF, SELF, SELF, SELF)))
        self.assertGreater(bounds(term)[1], 150)
        self.check_small(("grow", 3, ONE, ("tuple", (SELF, SELF, SELF))), expected(("grow", 3, ONE, ("tuple", (SELF, SELF, SELF)))))

    def test_8_levels(self):
        wrappers = [
            lambda term: ("pick", (ONE, term)), lambda term: ("weigh", ((1, term), (1, LOST))), lambda term: ("tuple", (term, ONE)),
            lambda term: ("list", 0, 1, term), lambda term: ("map", ("add", 1), term), lambda term: ("keep", ("not", EVEN), 2, term),
            lambda term: ("let", "x", term, ("tuple", (X, X))), lambda term: ("let", "x", ("pick", (ONE, LOST)), term),
            lambda term: ("grow", 0, term, ONE), lambda term: ("grow", 1, ONE, term), lambda term: ("grow", 1, term, ("map", ("add", 1), SELF)),
        ]
        many = 0
        for one in wrappers:
            for two in wrappers:
                for three in wrappers:
                    term = ONE
                    for wrapper in (one, two, three, one, two, three, one):
                        if bounds(wrapper(term))[2] <= 8:
                            term = wrapper(term)
                    if is_small(term):
                        many += 1
                        self.check_small(term, expected(term))
        self.assertGreater(many, 400)

    def test_parts_that_are_never_run(self):
        # The part of a list of the length 0, and the last part of a grow of the size 0, may be of whatever size.
        wide = ("tuple", (("range", 0, 63), ("range", 0, 63), ("weigh", ((TOP, ONE), (TOP, TWO)))))
        far = ("map", ("flat",), ("const", ((1,) * 64, (2,) * 64)))
        deep = ONE
        for _ in range(19):
            deep = ("map", ("add", 1), deep)
        for part in (wide, far, LOST, ("list", 6, 6, wide)):
            self.check_small(("list", 0, 0, part), ("const", ()))
            self.check_small(("let", "x", COIN, ("tuple", (X, ("list", 0, 0, part)))),
                             ("weigh", ((1, ("const", (0, ()))), (1, ("const", (1, ()))))))
        for part in (wide, far, deep, ("tuple", (deep,) * 64), ("grow", 4, deep, ("tuple", (SELF,) * 64))):
            self.check_small(("grow", 0, ONE, part), ONE)
            self.check_small(("tuple", (("grow", 0, COIN, part), ONE)), expected(("tuple", (COIN, ONE))))
            self.check_small(("let", "x", COIN, ("tuple", (X, ("grow", 0, ONE, part)))),
                             ("weigh", ((1, ("const", (0, 1))), (1, ("const", (1, 1))))))

    def test_terms_that_are_deep_only_where_nothing_is_run(self):
        # These are 24 deep, and have at most 8 levels.
        wrappers = [
            lambda term: ("list", 1, 1, term), lambda term: ("let", "x", COIN, ("tuple", (X, term))), lambda term: ("map", ("sum",), term),
            lambda term: ("grow", 1, ONE, ("tuple", (SELF, term))), lambda term: ("let", "x", ("range", 0, 2), ("pick", (X, term))),
            lambda term: ("tuple", (("pick", (ONE, LOST)), term)), lambda term: ("keep", EVEN, 2, term), lambda term: ("pick", (ONE, term)),
            lambda term: ("let", "x", ("keep", EVEN, 2, COIN), ("map", ("sum",), ("tuple", (X, term)))),
            lambda term: ("grow", 2, ("pick", (ONE, LOST)), ("let", "x", SELF, ("tuple", (X, term)))),
        ]
        many = 0
        for wrapper in wrappers:
            for further in [lambda term: term] + wrappers:
                levels = 23
                while True:
                    deep = ONE
                    for _ in range(levels):
                        deep = ("map", ("add", 1), deep)
                    if is_term(further(wrapper(("grow", 0, TWO, deep)))):
                        break
                    levels -= 1
                for idle in (("grow", 0, TWO, deep), ("grow", 3, deep, TWO), ("grow", 2, deep, ("grow", 1, TWO, SELF))):
                    term = further(wrapper(idle))
                    if is_small(term):
                        many += 1
                        self.check_small(term, expected(term))
        self.assertGreater(many, 200)

    def test_let_whose_variable_is_not_used(self):
        far = ("map", ("flat",), ("const", ((1,) * 64, (2,) * 64)))
        self.check_small(("let", "x", far, TWO), TWO)
        self.check_small(("tuple", (far, LOST)), LOST)
        self.check_small(("tuple", (LOST, far)), LOST)
        self.check_small(("tuple", (("keep", EVEN, 1, ONE), far)), LOST)

    def test_many_terms_at_the_limits(self):
        class Wider(Maker):
            def leaf(self, names, grown):
                leaves = [("range", 0, self.below(6)), ("const", self.below(4)), ("pick", (ONE, LOST)), ("weigh", ((1 + self.below(3), ONE), (1, TWO)))]
                leaves.append(("shuffle", (1, self.below(3), 2)[:2 + self.below(2)]))
                return self.one_of(leaves + [Maker.leaf(self, names, grown)] * 3)

        maker = Wider(23)
        many, most = 0, [0, 0, 0]
        for _ in range(2000):
            term = maker.term(1 + maker.below(7))
            if is_term(term) and is_small(term):
                many += 1
                most = [max(one, two) for one, two in zip(most, bounds(term))]
                form, log = normal(term)
                self.assertEqual(form, expected(term))
                self.assertEqual(replay(term, log), form)
        self.assertGreater(many, 700)
        self.assertEqual(most[0], 24)
        self.assertGreater(most[1], 100)
        self.assertEqual(most[2], 8)


class TestErrors(Normal):
    def test_invalid(self):
        for thing in NO_TERMS:
            self.assertEqual(self.check_error(thing, Invalid), "term")
        for thing in (X, SELF, ("tuple", (LOST, X))):
            self.assertEqual(self.check_error(thing, Invalid), "term")

    def test_too_large(self):
        many = ("range", 0, 63)
        terms = [
            ("tuple", (many, many)), ("pick", (many, ("const", 64))), ("list", 6, 6, many), ("list", 0, 6, ("list", 6, 6, many)),
            ("map", ("flat",), ("const", ((1,) * 64, (2,)))), ("weigh", ((TOP, ("weigh", ((TOP, ONE), (TOP - 1, TWO)))), (TOP - 1, TWO))),
        ]
        deep = ("const", (((((((1,),),),),),),))
        terms.append(("tuple", (("tuple", (deep,)),)))
        far = COIN
        for _ in range(23):
            far = ("map", ("add", 1), far)
        terms.append(far)
        for term in terms:
            self.assertIs(is_term(term), True)
            self.check_error(term, TooLarge)

    def test_terms_without_an_end_in_sight(self):
        # These would take far too many steps, or calls inside each other.
        term = ("map", ("mod", 2), ("map", ("sum",), ("tuple", tuple([("var", letter) for letter in "abcdefghijklmnopqrs"]))))
        for letter in "abcdefghijklmnopqrs":
            term = ("let", letter, COIN, term)
        self.check_error(term, TooLarge)
        term = SELF
        for number in range(10):
            term = ("grow", 4, SELF if number < 9 else ONE, term)
        self.check_error(term, TooLarge)
        self.check_error(chain(104, ("pick", (ONE, ("map", ("sum",), COIN)))), TooLarge)


class TestSameChances(unittest.TestCase):
    def test_equal_ones(self):
        groups = [
            [DIE, ("weigh", tuple([(2, ("const", number)) for number in (3, 1, 2, 6, 5, 4)])), ("map", ("add", 1), ("range", 0, 5))],
            [ONE, ("range", 1, 1), ("pick", (ONE, ONE)), ("let", "x", DIE, ONE), ("map", ("sum",), ("const", (1,))), ("grow", 3, ONE, SELF)],
            [LOST, ("keep", EVEN, 4, ONE), ("tuple", (DIE, LOST)), ("pick", (LOST, LOST))],
            [("const", (1,)), ("tuple", (ONE,)), ("list", 1, 1, ONE), ("shuffle", (1,))],
            [("tuple", (COIN, COIN)), ("list", 2, 2, COIN), ("let", "x", COIN, ("tuple", (COIN, X)))],
            [COIN, ("let", "x", COIN, X), ("map", ("mod", 2), DIE)],
            [("pick", (COIN, LOST)), ("weigh", ((1, ZERO), (2, LOST), (1, ONE)))],
            [("pick", (COIN, ONE))], [("range", 0, 2)], [("pick", (COIN, LOST, LOST))], [("const", ())], [("const", ((1,),))],
        ]
        for first, one in enumerate(groups):
            for second, two in enumerate(groups):
                for left in one:
                    for right in two:
                        self.assertIs(same_chances(left, right), first == second)

    def test_many_terms(self):
        terms = [term for term in made_terms(400) if is_small(term)][:150]
        told = [(spread(term).rows(), spread(term).lost) for term in terms]
        equal = 0
        for first, one in enumerate(terms):
            for second in range(first, len(terms), 1 + first % 5):
                same = told[first] == told[second]
                equal += same and first != second
                self.assertIs(same_chances(one, terms[second]), same)
        self.assertGreater(equal, 20)

    def test_forms_and_logs_are_new(self):
        term = ("pick", (ONE, TWO))
        form, log = normal(term)
        log.append(None)
        self.assertEqual(normal(term), (form, log[:-1]))
        self.assertIs(same_chances(term, term), True)


class TestBounds(unittest.TestCase):
    """The bounds of this file, which tell for which terms no error is allowed."""

    def test_bounds(self):
        cases = [
            (ONE, (1, 1, 1)), (LOST, (1, 1, 1)), (DIE, (6, 1, 1)), (("shuffle", (1, 2, 3)), (6, 1, 1)), (("shuffle", ()), (1, 1, 1)),
            (("pick", (DIE, COIN)), (8, 3, 2)), (("weigh", ((3, DIE), (2, COIN))), (22, 3, 2)), (("tuple", (DIE, COIN)), (12, 3, 2)), (("tuple", ()), (1, 1, 1)),
            (("list", 0, 2, COIN), (7, 3, 2)), (("list", 0, 0, DIE), (1, 2, 2)), (("list", 3, 3, COIN), (8, 4, 2)), (("keep", EVEN, 3, COIN), (8, 4, 2)),
            (("map", ("sum",), DIE), (6, 2, 2)), (("let", "x", DIE, ("tuple", (X, Y))), (6, 1 + 1 + 6 * 3, 3)), (("let", "x", DIE, ("upto", "x")), (384, 8, 2)),
            (("grow", 0, DIE, ("tuple", (COIN, COIN))), (6, 2, 2)), (("grow", 1, DIE, ("tuple", (COIN, SELF))), (12, 5, 4)),
            (("grow", 2, DIE, ("tuple", (COIN, SELF))), (24, 8, 6)), (("grow", 1, ONE, ("grow", 1, SELF, ("pick", (SELF, COIN)))), (3, 7, 6)),
        ]
        for term, found in cases:
            with self.subTest(term=term):
                self.assertEqual(bounds(term), found)

    def test_against_paths_and_spread(self):
        for term in made_terms(500):
            if is_closed(term) and is_small(term):
                self.assertLessEqual(len(paths(term)), bounds(term)[0])
                self.assertIsNotNone(spread(term))


if __name__ == "__main__":
    unittest.main()
