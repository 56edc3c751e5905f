"""Points 11 and 16 to 18 and chance/measure.py."""

import itertools
import math
import unittest
from fractions import Fraction

from makers import COIN, DIE, EVEN, HUGE, LOST, NO_TERMS, ONE, SELF, TOP, TWO, X, Y, chain, made_terms, steps
from chance.checks import holds
from chance.errors import Impossible, Invalid, Refused, TooLarge
from chance.measure import Spread, chance, conditional, mean, spread
from chance.tapes import paths, run
from chance.terms import substitute, unfolded
from chance.values import apply, ascending, sum_of


def pair(fraction):
    """A ratio as a pair."""
    return (fraction.numerator, fraction.denominator)


def half(term):
    """A term that is lost half of the time."""
    return ("pick", (term, LOST))


def values(count):
    """A pick with so many values, the integers from 0 on, up to 64 * 64."""
    parts = [("range", low, min(low + 63, count - 1)) for low in range(0, count, 64)]
    return ("pick", tuple(parts))


def work(count):
    """A term with the value (..) that takes so many evaluations, 4 to 8192."""
    first = min(count - 2, 4096)
    return ("tuple", (steps(first), steps(count - 1 - first)))


class Evaluation:
    """The distribution of a term, word by word: it replaces variables and selfs as it goes.

    A distribution is the pair of a dict of the chances of the values, and the lost chance.
    """

    def __init__(self):
        self.done = 0

    def spread(self, term, around=0):
        self.done += 1
        if self.done > 5000:
            raise TooLarge("work")
        if around >= 100:
            raise TooLarge("depth")
        found, lost = getattr(self, term[0])(term, around + 1)
        if len(found) > 500:
            raise TooLarge("values")
        assert sum(found.values()) + lost == 1
        return found, lost

    def mixed(self, shares):
        whole = sum(weight for weight, _ in shares)
        found, lost = {}, Fraction(0)
        for weight, (inner, inner_lost) in shares:
            part = Fraction(weight) / whole
            lost += part * inner_lost
            for value, share in inner.items():
                found[value] = found[value] + part * share if value in found else part * share
        return found, lost

    def const(self, term, around):
        return {term[1]: Fraction(1)}, Fraction(0)

    def discard(self, term, around):
        return {}, Fraction(1)

    def range(self, term, around):
        return self.mixed([(1, ({number: 1}, 0)) for number in range(term[1], term[2] + 1)])

    def pick(self, term, around):
        return self.mixed([(1, self.spread(part, around)) for part in term[1]])

    def weigh(self, term, around):
        return self.mixed([(weight, self.spread(part, around)) for weight, part in term[1]])

    def longer(self, found, inner):
        if len(found) * len(inner) > 500:
            raise TooLarge("values")
        return {one + (two,): found[one] * inner[two] for one in found for two in inner}

    def tuple(self, term, around):
        found = {(): Fraction(1)}
        for part in term[1]:
            inner, _ = self.spread(part, around)
            if not inner:
                return {}, Fraction(1)
            found = self.longer(found, inner)
        return found, 1 - sum(found.values())

    def list(self, term, around):
        inner, _ = self.spread(term[3], around)
        rows = [{(): Fraction(1)}]
        for _ in range(term[2]):
            rows.append(self.longer(rows[-1], inner))
        return self.mixed([(1, (row, 1 - sum(row.values()))) for row in rows[term[1]:]])

    def shuffle(self, term, around):
        return self.mixed([(1, ({order: 1}, 0)) for order in itertools.permutations(term[1])])

    def map(self, term, around):
        inner, lost = self.spread(term[2], around)
        shares = [(share, ({apply(term[1], value): 1}, 0)) for value, share in inner.items()]
        return self.mixed(shares + [(lost, ({}, 1))])

    def keep(self, term, around):
        inner, lost = self.spread(term[3], around)
        found, left = {}, Fraction(1)
        for _ in range(term[2]):
            for value, share in inner.items():
                if holds(term[1], value):
                    found[value] = found.get(value, 0) + left * share
            left *= sum(share for value, share in inner.items() if not holds(term[1], value))
        return found, 1 - sum(found.values())

    def let(self, term, around):
        inner, lost = self.spread(term[2], around)
        shares = [(inner[value], self.spread(substitute(term[3], term[1], value), around)) for value in ascending(list(inner))]
        return self.mixed(shares + [(lost, ({}, 1))])

    def grow(self, term, around):
        return self.spread(unfolded(term), around)


def expected(term):
    found, lost = Evaluation().spread(term)
    return [(value, pair(found[value])) for value in ascending(list(found))], pair(Fraction(lost))


class Measured(unittest.TestCase):
    def check(self, term, rows, lost=(0, 1)):
        with self.subTest(term=term):
            found = spread(term)
            self.assertEqual(found.rows(), rows)
            self.assertEqual(found.lost, lost)
            for value, share in rows:
                self.assertEqual(found.of(value), share)

    def check_error(self, term, name, kind=TooLarge):
        for call in (spread, mean, lambda thing: chance(thing, EVEN), lambda thing: conditional(thing, EVEN)):
            with self.assertRaises(kind) as caught:
                call(term)
            self.assertEqual(caught.exception.name, name)

    def check_work(self, term, count):
        """Check that a term takes so many evaluations."""
        with self.subTest(term=term):
            spread(("tuple", (work(4999 - count), term)))
            self.check_error(("tuple", (work(5000 - count), term)), "work")


class TestSpread(Measured):
    def test_examples_of_the_document(self):
        self.check(("keep", ("less", 2), 2, ("range", 0, 3)), [(0, (3, 8)), (1, (3, 8))], (1, 4))

    def test_kinds(self):
        found = spread(half(COIN))
        self.assertIs(type(found), Spread)
        self.assertIs(type(found.rows()), list)
        for item in [found.lost, found.of(1), found.of(7)] + found.rows() + [row[1] for row in found.rows()]:
            self.assertIs(type(item), tuple)
        self.assertIn("of", vars(Spread))
        self.assertIn("rows", vars(Spread))

    def test_rows_is_a_new_list(self):
        found = spread(COIN)
        found.rows().pop()
        rows = found.rows()
        rows[0] = (9, (9, 9))
        self.assertEqual(found.rows(), [(0, (1, 2)), (1, (1, 2))])
        self.assertEqual(found.of(0), (1, 2))

    def test_const_and_discard(self):
        for value in (0, -5, HUGE, (), (1, (2,))):
            self.check(("const", value), [(value, (1, 1))])
        self.check(LOST, [], (1, 1))
        self.assertEqual(spread(LOST).of(0), (0, 1))

    def test_range(self):
        self.check(("range", 5, 5), [(5, (1, 1))])
        self.check(("range", -2, 3), [(number, (1, 6)) for number in range(-2, 4)])
        self.check(("range", -1000, -937), [(number, (1, 64)) for number in range(-1000, -936)])

    def test_pick(self):
        self.check(("pick", (TWO, ONE, TWO, LOST)), [(1, (1, 4)), (2, (1, 2))], (1, 4))
        self.check(("pick", (ONE,)), [(1, (1, 1))])
        self.check(("pick", (COIN, ("range", 1, 3), LOST)), [(0, (1, 6)), (1, (5, 18)), (2, (1, 9)), (3, (1, 9))], (1, 3))

    def test_weigh(self):
        self.check(("weigh", ((3, TWO), (2, ONE), (1, TWO), (4, LOST))), [(1, (1, 5)), (2, (2, 5))], (2, 5))
        self.check(("weigh", ((TOP, ONE), (1, TWO))), [(1, (TOP, TOP + 1)), (2, (1, TOP + 1))])
        self.check(("weigh", ((2, COIN), (1, ("range", 0, 2)))), [(0, (4, 9)), (1, (4, 9)), (2, (1, 9))])
        self.check(("weigh", ((TOP, ("weigh", ((TOP, ONE), (TOP, LOST)))),)), [(1, (1, 2))], (1, 2))

    def test_tuple(self):
        self.check(("tuple", ()), [((), (1, 1))])
        self.check(("tuple", (COIN, TWO)), [((0, 2), (1, 2)), ((1, 2), (1, 2))])
        self.check(("tuple", (half(COIN), half(ONE))), [((0, 1), (1, 8)), ((1, 1), (1, 8))], (3, 4))
        self.check(("tuple", (COIN, LOST, COIN)), [], (1, 1))

    def test_list(self):
        self.check(("list", 0, 0, DIE), [((), (1, 1))])
        self.check(("list", 0, 0, LOST), [((), (1, 1))])
        self.check(("list", 2, 2, ONE), [((1, 1), (1, 1))])
        self.check(("list", 0, 1, COIN), [((), (1, 2)), ((0,), (1, 4)), ((1,), (1, 4))])
        self.check(("list", 1, 2, half(ONE)), [((1,), (1, 4)), ((1, 1), (1, 8))], (5, 8))
        self.check(("list", 0, 3, LOST), [((), (1, 4))], (3, 4))
        self.check(("list", 1, 3, LOST), [], (1, 1))
        self.check(("list", 6, 6, ("weigh", ((1, ONE), (9, LOST)))), [((1,) * 6, (1, 10 ** 6))], (10 ** 6 - 1, 10 ** 6))

    def test_shuffle(self):
        self.check(("shuffle", ()), [((), (1, 1))])
        self.check(("shuffle", (3,)), [((3,), (1, 1))])
        self.check(("shuffle", (3, 1, 3)), [((1, 3, 3), (1, 3)), ((3, 1, 3), (1, 3)), ((3, 3, 1), (1, 3))])
        self.check(("shuffle", (1, 2, 3, 4)), [(order, (1, 24)) for order in itertools.permutations((1, 2, 3, 4))])
        self.check(("shuffle", (5, 5, 5, 5)), [((5, 5, 5, 5), (1, 1))])
        self.check(("shuffle", ((), 5, (), 5)), [(order, (1, 6)) for order in ascending(list(set(itertools.permutations(((), 5, (), 5)))))])

    def test_map(self):
        self.check(("map", ("mod", 2), DIE), [(0, (1, 2)), (1, (1, 2))])
        self.check(("map", ("sum",), ("tuple", (COIN, COIN))), [(0, (1, 4)), (1, (1, 2)), (2, (1, 4))])
        self.check(("map", ("mul", -1), half(("range", 1, 2))), [(-2, (1, 4)), (-1, (1, 4))], (1, 2))
        self.check(("map", ("add", 1), LOST), [], (1, 1))

    def test_keep(self):
        third = ("pick", (ONE, TWO, LOST))
        self.check(("keep", EVEN, 1, third), [(2, (1, 3))], (2, 3))
        self.check(("keep", EVEN, 2, third), [(2, (4, 9))], (5, 9))
        self.check(("keep", EVEN, 3, third), [(2, (13, 27))], (14, 27))
        self.check(("keep", EVEN, 4, third), [(2, (40, 81))], (41, 81))
        self.check(("keep", EVEN, 4, ("range", 1, 2)), [(2, (15, 16))], (1, 16))
        self.check(("keep", EVEN, 4, ("const", 2)), [(2, (1, 1))])
        self.check(("keep", EVEN, 4, ONE), [], (1, 1))
        self.check(("keep", EVEN, 4, LOST), [], (1, 1))

    def test_keep_discarded_with_tries_left(self):
        for tries in (1, 2, 3, 4):
            self.check(("keep", ("size", 0), tries, half(ONE)), [(1, (1, 2))], (1, 2))
            self.check(("keep", ("size", 1), tries, half(ONE)), [], (1, 1))

    def test_let_var_and_upto(self):
        self.check(("let", "x", COIN, ("tuple", (X, X))), [((0, 0), (1, 2)), ((1, 1), (1, 2))])
        self.check(("let", "x", COIN, ("upto", "x")), [(0, (3, 4)), (1, (1, 4))])
        self.check(("let", "x", ("const", 63), ("upto", "x")), [(number, (1, 64)) for number in range(64)])
        for value in (64, -1, (), (3,)):
            self.check(("let", "x", ("const", value), ("upto", "x")), [(0, (1, 1))])
        self.check(("let", "x", half(COIN), ("pick", (X, LOST))), [(0, (1, 8)), (1, (1, 8))], (3, 4))
        self.check(("let", "x", LOST, ONE), [], (1, 1))
        self.check(("let", "x", half(ONE), TWO), [(2, (1, 2))], (1, 2))
        self.check(("let", "x", COIN, ("let", "x", ("map", ("add", 5), X), X)), [(5, (1, 2)), (6, (1, 2))])
        self.check(("let", "x", COIN, ("let", "y", ("pick", (X, TWO)), ("tuple", (X, Y)))), [
            ((0, 0), (1, 4)), ((0, 2), (1, 4)), ((1, 1), (1, 4)), ((1, 2), (1, 4)),
        ])

    def test_grow_and_self(self):
        add = ("pick", (ONE, ("map", ("add", 1), SELF)))
        self.check(("grow", 0, TWO, LOST), [(2, (1, 1))])
        self.check(("grow", 2, ("const", 0), add), [(1, (1, 2)), (2, (1, 2))])
        self.check(("grow", 3, ("const", 0), add), [(1, (1, 2)), (2, (1, 4)), (3, (1, 4))])
        self.check(("grow", 4, ("const", 0), ("map", ("add", 1), SELF)), [(4, (1, 1))])
        self.check(("grow", 4, LOST, ("pick", (ONE, SELF))), [(1, (15, 16))], (1, 16))
        self.check(("grow", 1, ONE, ("grow", 1, SELF, ("tuple", (SELF, SELF)))), [((1, 1), (1, 1))])
        self.check(("let", "x", COIN, ("grow", 1, X, ("let", "x", TWO, ("tuple", (X, SELF))))), [((2, 0), (1, 2)), ((2, 1), (1, 2))])

    def test_of(self):
        found = spread(("tuple", (half(COIN), ("pick", (("const", ()), ("tuple", (COIN,)))))))
        self.assertEqual(found.of((0, ())), (1, 8))
        self.assertEqual(found.of((1, (0,))), (1, 16))
        for value in (0, 1, (), (0,), (0, 0), (0, (2,)), (0, ((),)), (2, ()), ((), 0), (0, (), ()), HUGE, -1, (0, (0, 0))):
            self.assertEqual(found.of(value), (0, 1))

    def test_rows_in_ascending_order(self):
        term = ("pick", (("const", (9,)), ("const", ()), TWO, ("const", (0, 0)), ("const", -3), TWO, ("const", (0, -1)), ("const", ((),)), ("const", HUGE)))
        rows = [(-3, (1, 9)), (2, (2, 9)), (HUGE, (1, 9)), ((), (1, 9)), ((9,), (1, 9)), (((),), (1, 9)), ((0, -1), (1, 9)), ((0, 0), (1, 9))]
        self.check(term, rows)

    def test_values_beyond_the_limits(self):
        term = ("map", ("flat",), ("tuple", (("const", (1,) * 64), ("const", (2,) * 63), ("tuple", (COIN,)))))
        self.check(term, [((1,) * 64 + (2,) * 63 + (number,), (1, 2)) for number in (0, 1)])
        deep = COIN
        for _ in range(20):
            deep = ("tuple", (deep,))
        rows = spread(deep).rows()
        self.assertEqual(len(rows), 2)
        self.assertEqual(spread(deep).of(rows[1][0]), (1, 2))

    def test_values_far_beyond_the_limits(self):
        # Each let wraps the value of the outer one; the last value is nested deeper than Python nests calls.
        term = X
        for outer in range(19, 0, -1):
            wrapped = X if outer > 1 else COIN
            for _ in range(3):
                last = SELF
                for _ in range(min(5, 20 - outer)):
                    last = ("tuple", (last,))
                wrapped = ("grow", 4, wrapped, last)
            term = ("let", "x", wrapped, term)
        found = spread(term)
        first, second = found.rows()
        self.assertEqual((first[1], second[1]), ((1, 2), (1, 2)))
        self.assertEqual(found.of(second[0]), (1, 2))
        self.assertEqual(found.of((second[0],)), (0, 1))
        depth = 0
        value = second[0]
        while isinstance(value, tuple):
            value = value[0]
            depth += 1
        self.assertEqual(value, 1)
        self.assertGreater(depth, 1000)
        self.assertEqual((chance(term, EVEN), mean(term)), ((1, 2), (1, 2)))

    def test_argument_unchanged(self):
        term = ("weigh", ((1, COIN), (2, LOST)))
        spread(term)
        self.assertEqual(term, ("weigh", ((1, ("range", 0, 1)), (2, ("discard",)))))


class TestAgainstOthers(Measured):
    def test_against_paths(self):
        many = 0
        for term in made_terms(1500):
            try:
                rows = paths(term)
                spread(term)
            except TooLarge:
                continue
            many += 1
            shares = {}
            for _, sizes, value in rows:
                shares[value] = shares.get(value, 0) + Fraction(1, math.prod(sizes))
            lost = shares.pop(None, Fraction(0))
            self.check(term, [(value, pair(shares[value])) for value in ascending(list(shares))], pair(Fraction(lost)))
            self.assertEqual(chance(term, EVEN), pair(Fraction(sum(share for value, share in shares.items() if sum_of(value) % 2 == 0))))
        self.assertGreater(many, 1000)

    def test_against_tapes(self):
        many = 0
        for term in made_terms(1500):
            try:
                rows = paths(term)
            except TooLarge:
                continue
            whole = math.lcm(*[size for _, sizes, _ in rows for size in sizes])
            length = max(len(told) for told, _, _ in rows)
            if whole ** length > 300:
                continue
            many += 1
            counts = {}
            for tape in itertools.product(range(whole), repeat=length):
                value, _ = run(term, list(tape))
                counts[value] = counts.get(value, 0) + 1
            found = spread(term)
            self.assertEqual(found.lost, pair(Fraction(counts.pop(None, 0), whole ** length)))
            self.assertEqual(found.rows(), [(value, pair(Fraction(counts[value], whole ** length))) for value in ascending(list(counts))])
        self.assertGreater(many, 200)

    def test_against_the_words(self):
        for term in made_terms(1500):
            try:
                rows, lost = expected(term)
            except TooLarge as error:
                self.check_error(term, error.name)
            else:
                self.check(term, rows, lost)

    def test_errors_against_the_words(self):
        blocks = [
            work(3000), work(1990), chain(99, ONE), chain(100, ONE), values(500), values(501), values(25), values(20), ("range", 0, 21), LOST,
            ("list", 0, 3, ("range", 0, 7)), ("list", 0, 2, ("range", 0, 21)), ("let", "x", values(20), ("tuple", (X, values(25)))),
            ("let", "x", values(21), ("pick", (X, ("map", ("mul", 100), X)))), ("let", "x", ("range", 0, 40), steps(64)),
        ]
        names = []
        for one, two, three in itertools.product(blocks, repeat=3):
            if (blocks.index(one) + 2 * blocks.index(two) + 7 * blocks.index(three)) % 31 != 0:
                continue
            for term in (("tuple", (one, two, three)), ("pick", (one, ("tuple", (two, three)))), ("let", "y", one, ("pick", (two, three)))):
                try:
                    rows, lost = expected(term)
                except TooLarge as error:
                    names.append(error.name)
                    with self.assertRaises(TooLarge) as caught:
                        spread(term)
                    self.assertEqual(caught.exception.name, error.name, term)
                else:
                    found = spread(term)
                    self.assertEqual((found.rows(), found.lost), (rows, lost))
        for name in ("work", "depth", "values"):
            self.assertGreater(names.count(name), 10)


class TestWork(Measured):
    def test_exactly(self):
        self.assertEqual(len(spread(work(5000)).rows()), 1)
        self.check_error(work(5001), "work")
        self.check_error(work(6000), "work")

    def test_each_head(self):
        cases = [
            (ONE, 1), (LOST, 1), (DIE, 1), (("shuffle", (1, 2, 3, 4)), 1), (("pick", (ONE, DIE, ONE)), 4), (("pick", (COIN,)), 2),
            (("weigh", ((5, ONE), (6, ONE))), 3), (("weigh", ((9, ("pick", (ONE, ONE))),)), 4), (("tuple", ()), 1), (("tuple", (ONE, DIE)), 3),
            (("list", 0, 0, ONE), 2), (("list", 0, 0, LOST), 2), (("list", 3, 6, ONE), 2), (("list", 0, 2, ("tuple", (ONE, ONE))), 4),
            (("map", ("add", 1), DIE), 2), (("map", ("size",), ("tuple", (ONE,))), 3), (("keep", EVEN, 1, DIE), 2), (("keep", EVEN, 4, DIE), 2),
            (("keep", EVEN, 4, ("map", ("add", 1), ONE)), 3), (("let", "x", ONE, X), 3), (("let", "x", DIE, X), 8), (("let", "x", COIN, ("upto", "x")), 4),
            (("let", "x", ("map", ("mod", 2), DIE), ("tuple", (X, ONE))), 9), (("let", "x", LOST, work(4000)), 2),
            (("let", "x", ("keep", EVEN, 1, ONE), ("tuple", (ONE, ONE))), 3), (("let", "x", half(ONE), X), 5), (("let", "x", ONE, TWO), 3),
            (("grow", 0, ONE, work(4000)), 2), (("grow", 1, ONE, TWO), 2), (("grow", 1, ONE, SELF), 3), (("grow", 4, ONE, SELF), 6),
            (("grow", 2, ONE, ("tuple", (SELF, SELF))), 1 + 1 + 2 * (1 + 1 + 2 * (1 + 1))), (("grow", 1, ("tuple", (ONE, ONE)), ("map", ("add", 1), SELF)), 6),
        ]
        for term, count in cases:
            if term != LOST and spread(term).lost != (1, 1):
                self.check_work(term, count)
            evaluation = Evaluation()
            evaluation.spread(term)
            self.assertEqual(evaluation.done, count)

    def test_discard_is_evaluated(self):
        self.assertEqual(spread(("tuple", (work(4998), LOST))).rows(), [])
        self.check_error(("tuple", (work(4999), LOST)), "work")
        self.assertEqual(spread(("tuple", (work(4997), ("let", "x", LOST, work(10))))).rows(), [])
        self.check_error(("tuple", (work(4998), ("let", "x", LOST, work(10)))), "work")

    def test_parts_behind_an_always_discarded_one(self):
        for lost, count in ((LOST, 1), (("keep", EVEN, 4, ONE), 2), (("list", 1, 2, LOST), 2), (("pick", (LOST, LOST)), 3)):
            self.check(("tuple", (ONE, lost, work(5001))), [], (1, 1))
            self.check(("tuple", (lost, values(501), chain(103, ONE))), [], (1, 1))
            term = ("pick", (work(4998 - count), ("tuple", (lost, work(8)))))
            self.assertEqual(spread(term).lost, (1, 2))
            self.check_error(("pick", (work(4999 - count), ("tuple", (lost, work(8))))), "work")
        # A part that is only sometimes discarded does not end it.
        self.assertEqual(spread(("tuple", (half(ONE), work(4995), LOST))).rows(), [])
        self.check_error(("tuple", (half(ONE), work(4996), LOST)), "work")

    def test_parts_of_a_pick_behind_a_discard(self):
        self.check_error(("pick", (LOST, work(4999))), "work")
        self.assertEqual(spread(("pick", (LOST, work(4998)))).lost, (1, 2))
        self.check_error(("weigh", ((5, LOST), (1, work(4999)))), "work")

    def test_list_of_length_0(self):
        self.assertEqual(spread(("list", 0, 0, work(4999))).rows(), [((), (1, 1))])
        self.check_error(("list", 0, 0, work(5000)), "work")
        self.check_error(("list", 0, 0, chain(100, ONE)), "depth")
        self.check_error(("list", 0, 0, values(501)), "values")
        self.check(("list", 0, 0, values(500)), [((), (1, 1))])

    def test_keep_with_tries(self):
        for tries in (1, 2, 3, 4):
            self.assertEqual(spread(("keep", ("size", 9), tries, work(4999))).rows(), [])
            self.check_error(("keep", ("size", 9), tries, work(5000)), "work")

    def test_let_for_each_value(self):
        # 1 + 1 + 62 * 80 and 1 + 2 + 62 * 80, with values that lost runs and equal values do not add to.
        self.assertEqual(len(spread(("let", "x", ("range", 1, 62), ("pick", (X, steps(78))))).rows()), 63)
        self.assertEqual(len(spread(("pick", (work(36), ("let", "x", ("range", 1, 62), ("pick", (X, steps(78))))))).rows()), 64)
        self.check_error(("pick", (work(38), ("let", "x", ("range", 1, 62), ("pick", (X, steps(78)))))), "work")
        self.assertEqual(len(spread(("let", "x", ("map", ("mod", 2), ("range", 1, 62)), steps(2498))).rows()), 1)
        self.check_error(("let", "x", ("map", ("mod", 2), ("range", 1, 62)), steps(2499)), "work")
        self.assertEqual(spread(("let", "x", half(ONE), steps(4000))).lost, (1, 2))


class TestDepth(Measured):
    def test_depth(self):
        for last in (ONE, DIE, ("tuple", ()), ("shuffle", (1, 2))):
            for count in (86, 99, 100):
                self.assertEqual(spread(chain(count, last)).lost, (0, 1))
            self.check_error(chain(101, last), "depth")
            self.check_error(chain(104, last), "depth")
        self.assertEqual(spread(chain(100, LOST)).lost, (1, 1))
        self.check_error(chain(101, LOST), "depth")

    def test_each_head(self):
        wrappers = [
            lambda term: ("pick", (term,)), lambda term: ("weigh", ((1, term),)), lambda term: ("tuple", (term,)), lambda term: ("list", 1, 1, term),
            lambda term: ("map", ("add", 0), term), lambda term: ("keep", ("not", ("size", 9)), 2, term), lambda term: ("let", "x", term, X),
            lambda term: ("let", "x", ONE, term), lambda term: ("grow", 0, term, ONE), lambda term: ("grow", 1, ONE, term),
        ]
        for wrapper in wrappers:
            self.assertEqual(spread(chain(99, wrapper(ONE))).lost, (0, 1))
            self.check_error(chain(100, wrapper(ONE)), "depth")
            self.assertEqual(spread(wrapper(chain(99, ONE))).lost, (0, 1))
            self.check_error(wrapper(chain(100, ONE)), "depth")

    def test_parts_that_a_run_might_not_reach(self):
        self.check_error(chain(100, ("list", 0, 1, ONE)), "depth")
        self.check_error(chain(100, ("list", 0, 0, ONE)), "depth")
        self.check_error(("pick", (ONE, chain(100, ONE))), "depth")
        self.check(("let", "x", LOST, chain(101, ONE)), [], (1, 1))

    def test_var_counts_where_it_stands(self):
        self.check(("let", "x", chain(99, ONE), X), [(1, (1, 1))])
        self.check_error(("let", "x", ONE, chain(100, X)), "depth")
        self.check(("let", "x", ONE, chain(99, X)), [(1, (1, 1))])
        self.check_error(("let", "x", ONE, chain(100, ("upto", "x"))), "depth")

    def test_work_comes_first(self):
        # Behind k evaluations, the chain's last term is number k + 101, and 100 terms are being evaluated around it.
        self.check_error(("tuple", (work(4898), chain(100, ONE))), "depth")
        self.check_error(("tuple", (work(4899), chain(100, ONE))), "depth")
        self.check_error(("tuple", (work(4900), chain(100, ONE))), "work")
        self.assertEqual(len(spread(("tuple", (work(4900), chain(99, ONE)))).rows()), 1)
        self.check_error(("tuple", (chain(100, ONE), work(5000))), "depth")
        self.check_error(("tuple", (work(5000), chain(100, ONE))), "work")


class TestValues(Measured):
    def test_one_term(self):
        for count in (499, 500):
            self.assertEqual(len(spread(values(count)).rows()), count)
        self.check_error(values(501), "values")
        self.check_error(values(1000), "values")

    def test_each_head(self):
        makers = [
            lambda count: ("weigh", ((1, values(count - 1)), (2, ("const", -1)))),
            lambda count: ("pick", (values(count - 250), ("map", ("mul", -1), values(251)))),
            lambda count: ("list", 501 - count, 1, values(500)),
            lambda count: ("let", "x", values(250), ("pick", (X, ("map", ("add", 250), X), ("const", count - 1)))),
            lambda count: ("tuple", (values(count),)),
            lambda count: ("map", ("add", 1), values(count)),
            lambda count: ("keep", ("not", ("size", 1)), 1, values(count)),
            lambda count: ("grow", 0, values(count), ONE),
            lambda count: ("grow", 1, values(count), SELF),
        ]
        for maker in makers:
            self.assertEqual(len(spread(maker(500)).rows()), 500)
            self.check_error(maker(501), "values")
        self.check(("let", "x", values(500), ONE), [(1, (1, 1))])
        self.check_error(("let", "x", values(501), ONE), "values")

    def test_values_that_come_together(self):
        # The parts have more than 500 values in all, but not different ones.
        self.assertEqual(len(spread(("pick", (values(500), values(500)))).rows()), 500)
        self.check_error(("pick", (values(500), ("const", 500))), "values")
        self.assertEqual(len(spread(("let", "x", values(400), ("pick", (X, ("map", ("mod", 500), ("map", ("add", 100), X)))))).rows()), 500)
        self.check_error(("let", "x", values(401), ("pick", (X, ("map", ("add", 100), X)))), "values")
        self.assertEqual(len(spread(("let", "x", values(500), ("map", ("mod", 3), X))).rows()), 3)
        self.assertEqual(len(spread(("map", ("mod", 3), values(500))).rows()), 3)
        self.check_error(("map", ("mod", 3), values(501)), "values")

    def test_first_parts_of_a_tuple(self):
        self.assertEqual(len(spread(("tuple", (values(20), values(25)))).rows()), 500)
        self.check_error(("tuple", (values(3), values(167))), "values")
        self.check_error(("tuple", (values(23), values(22))), "values")
        self.assertEqual(len(spread(("tuple", (values(20), ONE, values(25), ("tuple", ())))).rows()), 500)
        self.check_error(("tuple", (values(20), ONE, values(26), ONE)), "values")
        self.check_error(("tuple", (COIN,) * 9), "values")
        self.assertEqual(len(spread(("tuple", (COIN,) * 8)).rows()), 256)

    def test_a_tuple_is_checked_after_each_part(self):
        many = ("tuple", (values(23), values(22)))
        self.check_error(("tuple", (values(23), values(22), LOST)), "values")
        self.check_error(("map", ("size",), many), "values")
        self.check_error(("tuple", (values(23), values(22), work(5001))), "values")
        self.check_error(("tuple", (values(23), values(22), chain(101, ONE))), "values")
        self.check_error(("tuple", (values(23), work(5001), values(22))), "work")
        self.check_error(("tuple", (values(23), chain(101, ONE), values(22))), "depth")
        self.check(("tuple", (values(23), LOST, values(22))), [], (1, 1))
        self.check(("tuple", (LOST, values(23), values(22))), [], (1, 1))
        self.assertEqual(len(spread(("tuple", (values(20), values(25), half(ONE)))).rows()), 500)

    def test_everything_else_after_all_evaluations_inside(self):
        self.check_error(("pick", (values(300), ("map", ("add", 300), values(300)), work(5001))), "work")
        self.check_error(("pick", (values(300), ("map", ("add", 300), values(300)), chain(101, ONE))), "depth")
        self.check_error(("weigh", ((1, values(300)), (1, ("map", ("add", 300), values(300))), (1, work(5001)))), "work")
        self.check_error(("let", "x", values(30), ("pick", (values(499), ("map", ("add", 500), X), steps(200)))), "values")
        self.check_error(("let", "x", values(30), ("pick", (values(400), ("map", ("add", 500), X), steps(200)))), "work")

    def test_list(self):
        seven, eight = values(7), values(8)
        self.assertEqual(len(spread(("list", 0, 3, seven)).rows()), 400)
        self.check_error(("list", 3, 3, eight), "values")
        self.check_error(("list", 0, 3, eight), "values")
        self.assertEqual(len(spread(("list", 2, 2, values(22))).rows()), 484)
        self.assertEqual(len(spread(("list", 1, 1, values(500))).rows()), 500)
        # No length has more than 500 tuples, but all of them together have.
        self.check_error(("list", 0, 2, values(22)), "values")
        self.check_error(("list", 1, 2, values(22)), "values")
        self.check_error(("list", 0, 1, values(500)), "values")
        self.assertEqual(len(spread(("list", 0, 1, values(499))).rows()), 500)
        # A length below the greatest one has too many, too.
        self.check_error(("list", 2, 6, values(23)), "values")
        self.check_error(("list", 6, 6, values(23)), "values")
        self.check_error(("list", 6, 6, values(3)), "values")
        self.assertEqual(len(spread(("list", 5, 5, values(3))).rows()), 243)
        self.assertEqual(len(spread(("list", 6, 6, half(ONE))).rows()), 1)
        self.check(("list", 0, 6, LOST), [((), (1, 7))], (6, 7))

    def test_values_of_discarded_runs_do_not_count(self):
        self.assertEqual(len(spread(("keep", ("less", 10), 1, values(500))).rows()), 10)
        self.assertEqual(len(spread(("tuple", (("keep", ("less", 10), 1, values(500)), values(50)))).rows()), 500)


class TestInvalid(Measured):
    def test_invalid(self):
        for thing in NO_TERMS + [("tuple", (work(5001), X)), ("tuple", (values(501), X)), ("tuple", (chain(101, ONE), SELF))]:
            self.check_error(thing, "term", Invalid)


class TestChance(Measured):
    def test_chance(self):
        self.assertEqual(chance(DIE, EVEN), (1, 2))
        self.assertEqual(chance(DIE, ("less", 3)), (1, 3))
        self.assertEqual(chance(DIE, ("less", 7)), (1, 1))
        self.assertEqual(chance(DIE, ("less", 1)), (0, 1))
        self.assertEqual(chance(half(DIE), EVEN), (1, 4))
        self.assertEqual(chance(half(DIE), ("not", ("less", -HUGE))), (1, 2))
        self.assertEqual(chance(LOST, ("not", EVEN)), (0, 1))
        self.assertEqual(chance(("list", 0, 2, COIN), ("rising",)), (11, 12))
        self.assertIs(type(chance(DIE, EVEN)), tuple)

    def test_conditional(self):
        found = conditional(DIE, EVEN)
        self.assertIs(type(found), Spread)
        self.assertEqual((found.rows(), found.lost), ([(2, (1, 3)), (4, (1, 3)), (6, (1, 3))], (0, 1)))
        self.assertEqual((found.of(4), found.of(3), found.of(())), ((1, 3), (0, 1), (0, 1)))
        found = conditional(("weigh", ((4, LOST), (3, ONE), (2, TWO), (1, ("const", 4)))), EVEN)
        self.assertEqual((found.rows(), found.lost), ([(2, (2, 3)), (4, (1, 3))], (0, 1)))
        found = conditional(half(DIE), ("less", 100))
        self.assertEqual((found.rows(), found.lost), (spread(DIE).rows(), (0, 1)))

    def test_conditional_impossible(self):
        for term, test in ((DIE, ("less", 1)), (LOST, EVEN), (half(ONE), EVEN), (("const", ()), ("size", 1))):
            with self.assertRaises(Impossible) as caught:
                conditional(term, test)
            self.assertEqual(caught.exception.name, "test")
            self.assertEqual(chance(term, test), (0, 1))

    def test_conditional_against_chance(self):
        for term in made_terms(300):
            share = Fraction(*chance(term, EVEN))
            if share == 0:
                continue
            rows = [(value, pair(Fraction(*part) / share)) for value, part in spread(term).rows() if holds(EVEN, value)]
            found = conditional(term, EVEN)
            self.assertEqual((found.rows(), found.lost), (rows, (0, 1)))

    def test_mean(self):
        self.assertEqual(mean(("list", 1, 2, ("range", 1, 3))), (3, 1))
        self.assertEqual(mean(DIE), (7, 2))
        self.assertEqual(mean(half(DIE)), (7, 2))
        self.assertEqual(mean(("const", ())), (0, 1))
        self.assertEqual(mean(("const", (1, (2, (-7,))))), (-4, 1))
        self.assertEqual(mean(("range", -3, 0)), (-3, 2))
        self.assertEqual(mean(("weigh", ((4, ("const", -5)), (2, ONE), (3, LOST)))), (-3, 1))
        self.assertEqual(mean(("tuple", (DIE, ("tuple", (DIE, COIN))))), (15, 2))
        self.assertEqual(mean(("pick", (("const", HUGE), ("const", HUGE), ("const", -1)))), (2 * HUGE - 1, 3))
        self.assertEqual(mean(("range", -1, 1)), (0, 1))
        self.assertIs(type(mean(DIE)), tuple)

    def test_mean_impossible(self):
        for term in (LOST, ("tuple", (DIE, LOST)), ("keep", EVEN, 4, ONE)):
            with self.assertRaises(Impossible) as caught:
                mean(term)
            self.assertEqual(caught.exception.name, "value")

    def test_all_errors_are_refused(self):
        for call in (lambda: spread(X), lambda: spread(work(5001)), lambda: conditional(LOST, EVEN), lambda: mean(LOST)):
            with self.assertRaises(Refused):
                call()


if __name__ == "__main__":
    unittest.main()
