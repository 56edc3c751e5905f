"""Points 7 and 11 to 15 and chance/tapes.py."""

import unittest

from makers import COIN, DIE, EVEN, HUGE, LOST, NO_TERMS, ONE, SELF, TOP, TWO, X, Y, chain, made_terms, steps
from chance.checks import holds
from chance.errors import Impossible, Invalid, Refused, TooLarge
from chance.tapes import Tape, paths, run, shorter, tape_of, trimmed
from chance.terms import is_term, substitute, unfolded
from chance.values import apply


def runs(count):
    """A pick of ranges with so many runs, of two draws each."""
    parts = [("range", 0, 63)] * (count // 64)
    if count % 64 > 1:
        parts.append(("range", 1, count % 64))
    return ("pick", tuple(parts))


class Lost(Exception):
    """The run of `Expected` is discarded."""


class Expected:
    """The run of a term, word by word: it replaces variables and selfs as it goes."""

    def __init__(self, numbers):
        self.numbers = list(numbers)
        self.told = []
        self.steps = 0

    def draw(self, size):
        if size == 1:
            return 0
        number = self.numbers.pop(0) if self.numbers else 0
        self.told.append(number % size)
        return number % size

    def value(self, term, around=0):
        self.steps += 1
        if self.steps == 4001:
            raise TooLarge("steps")
        if around >= 100:
            raise TooLarge("depth")
        return getattr(self, term[0])(term, around + 1)

    def const(self, term, around):
        return term[1]

    def discard(self, term, around):
        raise Lost()

    def range(self, term, around):
        return range(term[1], term[2] + 1)[self.draw(term[2] - term[1] + 1)]

    def pick(self, term, around):
        return self.value(term[1][self.draw(len(term[1]))], around)

    def weigh(self, term, around):
        number = self.draw(sum(weight for weight, _ in term[1]))
        for at, (_, part) in enumerate(term[1]):
            if sum(weight for weight, _ in term[1][:at + 1]) > number:
                return self.value(part, around)

    def tuple(self, term, around):
        return tuple([self.value(part, around) for part in term[1]])

    def list(self, term, around):
        return tuple([self.value(term[3], around) for _ in range(term[1] + self.draw(term[2] - term[1] + 1))])

    def shuffle(self, term, around):
        found = list(term[1])
        for k in reversed(range(1, len(found))):
            j = self.draw(k + 1)
            found[k], found[j] = found[j], found[k]
        return tuple(found)

    def map(self, term, around):
        return apply(term[1], self.value(term[2], around))

    def keep(self, term, around):
        for _ in range(term[2]):
            value = self.value(term[3], around)
            if holds(term[1], value):
                return value
        raise Lost()

    def let(self, term, around):
        return self.value(substitute(term[3], term[1], self.value(term[2], around)), around)

    def grow(self, term, around):
        return self.value(unfolded(term), around)


def expected(term, numbers):
    tape = Expected(numbers)
    try:
        return (tape.value(term), tape.told)
    except Lost:
        return (None, tape.told)


class TestTape(unittest.TestCase):
    def test_fields_from_the_creation_on(self):
        for numbers in ([], [3, 4]):
            tape = Tape(numbers)
            self.assertEqual((tape.told, tape.sizes), ([], []))
            self.assertIs(type(tape.told), list)
            self.assertIs(type(tape.sizes), list)
            self.assertIsNot(tape.told, tape.sizes)
            self.assertIsNot(tape.told, numbers)
            self.assertIsNot(tape.sizes, numbers)
        self.assertIsNot(Tape([]).told, Tape([]).told)

    def test_draw(self):
        tape = Tape([0, 1, 5, 6, 7, 13])
        self.assertEqual([tape.draw(6) for _ in range(6)], [0, 1, 5, 0, 1, 1])
        self.assertEqual(tape.told, [0, 1, 5, 0, 1, 1])
        self.assertEqual(tape.sizes, [6] * 6)

    def test_draw_of_the_size_1(self):
        tape = Tape([5, 4])
        self.assertEqual(tape.draw(1), 0)
        self.assertEqual((tape.told, tape.sizes), ([], []))
        self.assertEqual(tape.draw(10), 5)
        self.assertEqual([tape.draw(1), tape.draw(1)], [0, 0])
        self.assertEqual(tape.draw(3), 1)
        self.assertEqual(tape.draw(1), 0)
        self.assertEqual((tape.told, tape.sizes), ([5, 1], [10, 3]))

    def test_behind_the_end(self):
        tape = Tape([7])
        self.assertEqual([tape.draw(4), tape.draw(2), tape.draw(1), tape.draw(64)], [3, 0, 0, 0])
        self.assertEqual((tape.told, tape.sizes), ([3, 0, 0], [4, 2, 64]))
        tape = Tape([])
        self.assertEqual(tape.draw(2), 0)
        self.assertEqual((tape.told, tape.sizes), ([0], [2]))

    def test_very_big_numbers(self):
        tape = Tape([HUGE + 3, HUGE + 3, HUGE, 2])
        self.assertEqual([tape.draw(10), tape.draw(HUGE), tape.draw(HUGE + 1), tape.draw(HUGE)], [3, 3, HUGE, 2])
        self.assertEqual(tape.told, [3, 3, HUGE, 2])
        self.assertEqual(tape.sizes, [10, HUGE, HUGE + 1, HUGE])

    def test_given_list_stays(self):
        numbers = [9, 8, 7]
        tape = Tape(numbers)
        for size in (2, 1, 5, 3, 4):
            tape.draw(size)
        self.assertEqual(numbers, [9, 8, 7])
        tape.told.append(5)
        tape.sizes.append(5)
        self.assertEqual(numbers, [9, 8, 7])

    def test_list_changed_afterwards_does_not_matter(self):
        numbers = [9, 8]
        tape = Tape(numbers)
        numbers[0] = 0
        numbers.pop()
        self.assertEqual([tape.draw(10), tape.draw(10)], [9, 8])

    def test_step(self):
        tape = Tape([1])
        for _ in range(4000):
            self.assertIsNone(tape.step())
        for _ in range(2):
            with self.assertRaises(TooLarge) as caught:
                tape.step()
            self.assertEqual(caught.exception.name, "steps")
        self.assertEqual((tape.told, tape.sizes), ([], []))
        Tape([]).step()

    def test_draws_are_no_steps(self):
        tape = Tape([])
        for _ in range(5000):
            tape.draw(2)
        tape.step()
        self.assertEqual(tape.told, [0] * 5000)


class TestRun(unittest.TestCase):
    def check(self, term, numbers, value, told):
        with self.subTest(term=term, numbers=numbers):
            self.assertEqual(run(term, numbers), (value, told))
            self.assertEqual(run(term, told), (value, told))
            self.assertEqual(run(term, told + [5, 6]), (value, told))

    def test_example_of_the_document(self):
        term = ("tuple", (("range", 1, 6), ("pick", (("const", 0), ("discard",)))))
        self.assertEqual(run(term, [9, 2, 4]), ((4, 0), [3, 0]))

    def test_kinds(self):
        numbers = [1]
        found = run(COIN, numbers)
        self.assertIs(type(found), tuple)
        self.assertIs(type(found[1]), list)
        self.assertIsNot(found[1], numbers)
        found[1].append(9)
        self.assertEqual(run(COIN, numbers), (1, [1]))
        self.assertEqual(numbers, [1])

    def test_const_and_discard(self):
        for value in (0, -5, HUGE, (), (1, (2,))):
            self.check(("const", value), [7], value, [])
        self.check(LOST, [7], None, [])

    def test_range(self):
        for number in range(6):
            self.check(DIE, [number, 3], 1 + number, [number])
        self.check(DIE, [6], 1, [0])
        self.check(DIE, [], 1, [0])
        self.check(DIE, [HUGE + 5], 1 + (HUGE + 5) % 6, [(HUGE + 5) % 6])
        self.check(("range", 5, 5), [3], 5, [])
        self.check(("range", -1000, -937), [63], -937, [63])
        self.check(("range", -3, 3), [2], -1, [2])

    def test_pick(self):
        term = ("pick", (("const", 10), DIE, ("const", 12)))
        self.check(term, [0, 5], 10, [0])
        self.check(term, [1, 5], 6, [1, 5])
        self.check(term, [2, 5], 12, [2])
        self.check(term, [3], 10, [0])
        self.check(("pick", (DIE,)), [4], 5, [4])
        self.check(("pick", tuple([("const", k) for k in range(64)])), [63], 63, [63])

    def test_weigh(self):
        term = ("weigh", ((2, ("const", 10)), (1, DIE), (3, ("const", 12))))
        values = [10, 10, None, 12, 12, 12, 10]
        for number, value in enumerate(values):
            if number != 2:
                self.check(term, [number, 4], value, [number % 6])
        self.check(term, [2, 4], 5, [2, 4])
        self.check(("weigh", ((1, DIE),)), [4], 5, [4])
        self.check(("weigh", ((2, DIE),)), [5, 4], 5, [1, 4])
        big = ("weigh", ((TOP, ONE), (TOP, TWO), (1, ("const", 3))))
        cases = [(0, 1), (TOP - 1, 1), (TOP, 2), (2 * TOP - 1, 2), (2 * TOP, 3)]
        for number, value in cases:
            self.check(big, [number], value, [number])
        self.check(big, [2 * TOP + 1], 1, [0])

    def test_tuple(self):
        self.check(("tuple", ()), [5], (), [])
        self.check(("tuple", (DIE,)), [5], (6,), [5])
        self.check(("tuple", (DIE, ("tuple", (COIN, ONE)), COIN)), [2, 1, 0], (3, (1, 1), 0), [2, 1, 0])
        self.check(("tuple", (COIN,) * 64), [1, 0, 1], (1, 0, 1) + (0,) * 61, [1, 0, 1] + [0] * 61)

    def test_list(self):
        term = ("list", 1, 3, DIE)
        self.check(term, [0, 1, 2, 3], (2,), [0, 1])
        self.check(term, [1, 1, 2, 3], (2, 3), [1, 1, 2])
        self.check(term, [2, 1, 2, 3], (2, 3, 4), [2, 1, 2, 3])
        self.check(term, [3, 1, 2, 3], (2,), [0, 1])
        self.check(("list", 0, 0, DIE), [4, 5], (), [])
        self.check(("list", 2, 2, DIE), [4, 5], (5, 6), [4, 5])
        self.check(("list", 0, 6, ONE), [6], (1,) * 6, [6])
        self.check(("list", 0, 6, ("pick", (("list", 0, 1, COIN), TWO))), [2, 0, 1, 1, 1], ((1,), 2), [2, 0, 1, 1, 1])

    def test_shuffle(self):
        self.check(("shuffle", ()), [1], (), [])
        self.check(("shuffle", (7,)), [1], (7,), [])
        self.check(("shuffle", (7, 8)), [0], (8, 7), [0])
        self.check(("shuffle", (7, 8)), [1], (7, 8), [1])
        self.check(("shuffle", (1, 2, 3)), [0, 0], (2, 3, 1), [0, 0])
        self.check(("shuffle", (1, 2, 3)), [0, 1], (3, 2, 1), [0, 1])
        self.check(("shuffle", (1, 2, 3)), [1, 0], (3, 1, 2), [1, 0])
        self.check(("shuffle", (1, 2, 3)), [2, 1], (1, 2, 3), [2, 1])
        self.check(("shuffle", (1, 2, 3, 4)), [3, 2, 1], (1, 2, 3, 4), [3, 2, 1])
        self.check(("shuffle", (1, 2, 3, 4)), [], (2, 3, 4, 1), [0, 0, 0])
        self.check(("shuffle", ((), (1, 2), 5)), [5, 4], ((1, 2), (), 5), [2, 0])
        self.assertEqual(len({value for _, _, value in paths(("shuffle", (1, 2, 3, 4)))}), 24)

    def test_map(self):
        self.check(("map", ("add", 10), DIE), [3], 14, [3])
        self.check(("map", ("mod", 2), ("tuple", (DIE, DIE))), [0, 1], (1, 0), [0, 1])
        self.check(("map", ("sum",), ("tuple", (DIE, DIE))), [3, 4], 9, [3, 4])
        self.check(("map", ("sort",), ("shuffle", (3, 1, 2))), [1, 1], (1, 2, 3), [1, 1])
        self.check(("map", ("size",), ("list", 0, 2, DIE)), [2, 5, 5], 2, [2, 5, 5])
        self.check(("map", ("mul", 2), LOST), [3], None, [])

    def test_keep(self):
        term = ("keep", ("less", 3), 3, DIE)
        self.check(term, [1, 0, 0], 2, [1])
        self.check(term, [2, 0, 0], 1, [2, 0])
        self.check(term, [2, 5, 1], 2, [2, 5, 1])
        self.check(term, [2, 5, 3, 0], None, [2, 5, 3])
        self.check(("keep", EVEN, 1, DIE), [1], 2, [1])
        self.check(("keep", EVEN, 1, DIE), [0, 1], None, [0])
        self.check(("keep", EVEN, 4, DIE), [0, 2, 4, 1], 2, [0, 2, 4, 1])
        self.check(("keep", EVEN, 4, DIE), [], None, [0, 0, 0, 0])
        self.check(("keep", EVEN, 4, ONE), [3], None, [])
        self.check(("keep", ("equals", (2, 1)), 2, ("tuple", (DIE, COIN))), [1, 0, 1, 1], (2, 1), [1, 0, 1, 1])

    def test_keep_discarded_with_tries_left(self):
        term = ("keep", ("equals", 1), 4, ("pick", (ONE, LOST, TWO)))
        self.check(term, [1, 0, 0], None, [1])
        self.check(term, [2, 1, 0, 0], None, [2, 1])
        self.check(term, [2, 2, 2, 0], 1, [2, 2, 2, 0])
        self.check(("tuple", (("keep", EVEN, 2, LOST), DIE)), [1, 1], None, [])

    def test_discards_in_each_kind_of_part(self):
        self.check(("tuple", (DIE, LOST, DIE)), [3, 4, 5], None, [3])
        self.check(("tuple", (LOST, DIE)), [3, 4], None, [])
        self.check(("tuple", (("tuple", (DIE, LOST)), DIE)), [3, 4], None, [3])
        self.check(("list", 0, 3, ("pick", (ONE, LOST))), [3, 0, 1, 0], None, [3, 0, 1])
        self.check(("list", 0, 3, LOST), [0, 1], (), [0])
        self.check(("list", 0, 3, LOST), [2, 1], None, [2])
        self.check(("tuple", (("map", ("add", 1), LOST), DIE)), [3], None, [])
        self.check(("tuple", (("keep", EVEN, 3, LOST), DIE)), [3], None, [])
        self.check(("let", "x", LOST, DIE), [3], None, [])
        self.check(("let", "x", ("pick", (LOST, ONE)), DIE), [0, 3], None, [0])
        self.check(("tuple", (("let", "x", DIE, LOST), DIE)), [2, 3], None, [2])
        self.check(("tuple", (("pick", (ONE, LOST)), DIE)), [1, 3], None, [1])
        self.check(("tuple", (("weigh", ((2, ONE), (1, LOST))), DIE)), [2, 3], None, [2])
        self.check(("tuple", (("grow", 0, LOST, ONE), DIE)), [2, 3], None, [])
        self.check(("tuple", (("grow", 2, LOST, ("tuple", (COIN, SELF, COIN))), DIE)), [1, 1, 1], None, [1, 1])
        self.check(("tuple", (("keep", EVEN, 2, ONE), DIE)), [3], None, [])

    def test_let_and_var(self):
        self.check(("let", "x", DIE, X), [3], 4, [3])
        self.check(("let", "x", DIE, ("tuple", (X, X, DIE))), [3, 4], (4, 4, 5), [3, 4])
        self.check(("let", "x", DIE, ONE), [3], 1, [3])
        self.check(("let", "x", DIE, ("let", "y", COIN, ("tuple", (Y, X)))), [3, 1], (1, 4), [3, 1])
        self.check(("let", "x", DIE, ("tuple", (("let", "x", COIN, X), X))), [3, 1], (1, 4), [3, 1])
        self.check(("let", "x", DIE, ("let", "x", ("map", ("add", 10), X), ("tuple", (X, X)))), [3], (14, 14), [3])
        self.check(("let", "x", ("tuple", (DIE, ("tuple", ()))), ("map", ("flat",), X)), [3], (4,), [3])
        self.check(("let", "x", DIE, ("list", 2, 2, ("tuple", (X, COIN)))), [3, 0, 1], ((4, 0), (4, 1)), [3, 0, 1])

    def test_a_variable_called_self_is_no_self(self):
        self.check(("let", "self", DIE, ("var", "self")), [3], 4, [3])
        self.check(("let", "self", DIE, ("upto", "self")), [3, 2], 2, [3, 2])
        term = ("grow", 1, ONE, ("let", "self", DIE, ("tuple", (SELF, ("var", "self"), ("upto", "self")))))
        self.check(term, [3, 2], (1, 4, 2), [3, 2])

    def test_upto(self):
        for value in (0, 1, 5, 62, 63):
            term = ("let", "x", ("const", value), ("upto", "x"))
            self.check(term, [value], value, [value] if value > 0 else [])
            self.check(term, [value + 1], 0, [0] if value > 0 else [])
        for value in (64, -1, HUGE, -HUGE, (), (5,), (1, 2)):
            self.check(("let", "x", ("const", value), ("upto", "x")), [5], 0, [])
        self.check(("let", "x", ("range", 1, 6), ("tuple", (("upto", "x"), ("upto", "x"), X))), [3, 4, 5], (4, 0, 4), [3, 4, 0])

    def test_grow(self):
        term = ("grow", 3, DIE, ("map", ("add", 10), SELF))
        self.check(term, [2], 33, [2])
        self.check(("grow", 0, DIE, SELF), [2], 3, [2])
        self.check(("grow", 0, ONE, LOST), [2], 1, [])
        self.check(("grow", 1, LOST, DIE), [2], 3, [2])
        self.check(("grow", 4, ONE, SELF), [2], 1, [])
        self.check(("grow", 2, ONE, ("tuple", (SELF, SELF))), [], ((1, 1), (1, 1)), [])
        term = ("grow", 4, ("tuple", ()), ("pick", (("tuple", ()), ("tuple", (DIE, SELF)))))
        self.check(term, [1, 2, 1, 3, 0], (3, (4, ())), [1, 2, 1, 3, 0])
        self.check(term, [1] * 9, (2, (2, (2, (2, ())))), [1] * 8)

    def test_grow_in_the_last_part_of_another_one(self):
        term = ("grow", 2, ONE, ("tuple", (SELF, ("grow", 1, TWO, ("tuple", (SELF,))))))
        self.check(term, [], ((1, (2,)), (2,)), [])

    def test_self_in_the_third_item_belongs_further_outside(self):
        term = ("grow", 2, ONE, ("tuple", (("grow", 1, SELF, ("map", ("add", 10), SELF)), TWO)))
        self.check(term, [], ((21, 12), 2), [])
        term = ("grow", 1, DIE, ("grow", 2, SELF, ("tuple", (SELF,))))
        self.check(term, [3], ((4,),), [3])
        term = ("grow", 1, DIE, ("grow", 1, ("grow", 1, SELF, ("map", ("add", 10), SELF)), ("map", ("mul", 3), SELF)))
        self.check(term, [3], 42, [3])

    def test_grow_and_let(self):
        term = ("let", "x", DIE, ("grow", 2, X, ("let", "x", ("const", 50), ("tuple", (X, SELF)))))
        self.check(term, [3], (50, (50, 4)), [3])
        term = ("let", "x", DIE, ("grow", 2, X, ("let", "y", SELF, ("tuple", (X, Y)))))
        self.check(term, [3], (4, (4, 4)), [3])
        term = ("grow", 3, ONE, ("let", "x", SELF, ("map", ("sum",), ("tuple", (X, X)))))
        self.check(term, [], 8, [])
        term = ("let", "x", DIE, ("grow", 1, ("upto", "x"), ("let", "x", SELF, ("tuple", (X, ("upto", "x"))))))
        self.check(term, [5, 4, 3], (4, 3), [5, 4, 3])

    def test_invalid_before_everything_else(self):
        for thing in NO_TERMS + [("tuple", (steps(4001), X)), ("tuple", (chain(101, ONE), ("const",))), ("tuple", (LOST, X))]:
            with self.subTest(thing=thing):
                with self.assertRaises(Invalid) as caught:
                    run(thing, [1])
                self.assertEqual(caught.exception.name, "term")

    def test_numbers_stay(self):
        numbers = [9, 8, 7, 0]
        run(("tuple", (DIE, ("list", 1, 3, DIE))), numbers)
        self.assertEqual(numbers, [9, 8, 7, 0])

    def test_values_beyond_the_limits(self):
        term = ("map", ("flat",), ("tuple", (("const", (1,) * 64), ("const", (2,) * 64))))
        self.check(term, [], (1,) * 64 + (2,) * 64, [])
        self.check(("let", "x", term, ("map", ("size",), X)), [], 128, [])
        term = ("let", "x", ("grow", 4, ("const", ((((5,),),),)), ("tuple", (("tuple", (SELF,)),))), ("map", ("sum",), X))
        self.check(term, [], 5, [])

    def test_agrees_with_the_words(self):
        rows = [[], [1] * 20, [0, 1] * 10, [1, 0] * 10, [2, 1, 0] * 7, [5, 3, 4, 1, 2, 7, 0, 6] * 3, [0, 0, 0, 1] * 5, [11, 22, 33, 44] * 5]
        values = set()
        for term in made_terms(3000):
            self.assertTrue(is_term(term), term)
            for numbers in rows:
                found = run(term, numbers)
                self.assertEqual(found, expected(term, numbers), term)
                self.assertEqual(run(term, found[1]), found)
                values.add(found[0])
        self.assertGreater(len(values), 100)


class TestLimitsOfRuns(unittest.TestCase):
    def check(self, term, name):
        with self.assertRaises(TooLarge) as caught:
            run(term, [])
        self.assertEqual(caught.exception.name, name)

    def test_steps(self):
        for count in (1, 2, 64, 65, 66, 67, 1000, 3999, 4000):
            tape = Expected([])
            tape.value(steps(count))
            self.assertEqual(tape.steps, count)
        self.assertEqual(len(run(steps(4000), [])[0]), 63)
        self.check(steps(4001), "steps")
        self.check(steps(4096), "steps")

    def test_each_term_counts(self):
        cases = [
            (ONE, 1), (DIE, 1), (("shuffle", (1, 2)), 1), (("tuple", ()), 1), (("pick", (ONE, steps(50))), 2), (("weigh", ((1, TWO),)), 2),
            (("tuple", (ONE, TWO)), 3), (("list", 0, 3, ONE), 1), (("list", 2, 2, ("map", ("add", 1), ONE)), 5), (("map", ("add", 1), ONE), 2),
            (("keep", EVEN, 4, TWO), 2), (("keep", ("equals", 1), 4, ("map", ("add", 1), ONE)), 9), (("let", "x", ONE, X), 3),
            (("let", "x", ONE, ("upto", "x")), 3), (("let", "x", ("const", ()), ("upto", "x")), 3), (("grow", 0, ONE, TWO), 2),
            (("grow", 1, ONE, TWO), 2), (("grow", 1, ONE, SELF), 3), (("grow", 2, ONE, ("map", ("add", 1), SELF)), 6),
            (("grow", 1, ONE, ("grow", 1, SELF, SELF)), 5),
        ]
        for term, count in cases:
            with self.subTest(term=term):
                run(("tuple", (steps(3999 - count), term)), [])
                self.check(("tuple", (steps(4000 - count), term)), "steps")

    def test_a_discarded_run_counts_no_further(self):
        self.assertEqual(run(("tuple", (steps(3998), LOST, steps(4000))), []), (None, []))
        self.check(("tuple", (steps(3999), LOST)), "steps")
        self.assertEqual(run(("tuple", (COIN, steps(3997), LOST, COIN)), [1, 1]), (None, [1]))

    def test_draws_are_no_steps(self):
        self.assertEqual(run(("tuple", (steps(3998), ("shuffle", (1, 2, 3, 4)))), [])[1], [0, 0, 0])

    def test_each_run_counts_from_zero(self):
        for _ in range(3):
            run(steps(4000), [])

    def test_depth(self):
        for last in (ONE, DIE, ("tuple", ()), ("shuffle", (1, 2))):
            for count in (86, 99, 100):
                self.assertIsNotNone(run(chain(count, last), [])[0])
            self.check(chain(101, last), "depth")
            self.check(chain(104, last), "depth")
        self.assertEqual(run(chain(100, LOST), []), (None, []))
        self.check(chain(101, LOST), "depth")

    def test_depth_counts_each_head(self):
        wrappers = [
            lambda term: ("pick", (term,)), lambda term: ("weigh", ((1, term),)), lambda term: ("tuple", (term,)),
            lambda term: ("list", 1, 1, term), lambda term: ("map", ("add", 0), term), lambda term: ("keep", ("not", ("size", 9)), 2, term),
            lambda term: ("let", "x", term, X), lambda term: ("let", "x", ONE, term), lambda term: ("grow", 0, term, ONE),
            lambda term: ("grow", 1, ONE, term),
        ]
        for wrapper in wrappers:
            self.assertIsNotNone(run(chain(99, wrapper(ONE)), [])[0])
            self.check(chain(100, wrapper(ONE)), "depth")
            self.assertIsNotNone(run(wrapper(chain(99, ONE)), [])[0])
            self.check(wrapper(chain(100, ONE)), "depth")

    def test_only_terms_that_are_run_count(self):
        self.assertEqual(run(chain(100, ("list", 0, 1, ONE)), [0])[0], ())
        self.assertIsNotNone(run(("tuple", (chain(99, ONE), chain(99, ONE))), [])[0])
        self.assertEqual(run(("pick", (ONE, chain(104, ONE))), [0]), (1, [0]))
        self.assertEqual(run(("let", "x", ("tuple", ()), chain(99, ONE)), []), (1, []))

    def test_var_counts_where_it_stands(self):
        self.assertEqual(run(("let", "x", chain(99, ONE), X), []), (1, []))
        self.check(("let", "x", ONE, chain(100, X)), "depth")
        self.assertEqual(run(("let", "x", ONE, chain(99, X)), []), (1, []))
        self.check(("let", "x", ONE, chain(100, ("upto", "x"))), "depth")
        self.assertEqual(run(("let", "x", ONE, chain(99, ("upto", "x"))), []), (0, [0]))

    def test_order(self):
        # Behind k steps, the chain's last term is step k + 101, and 100 terms are being run around it.
        self.check(("tuple", (steps(3898), chain(100, ONE))), "depth")
        self.check(("tuple", (steps(3899), chain(100, ONE))), "depth")
        self.check(("tuple", (steps(3900), chain(100, ONE))), "steps")
        self.check(("tuple", (steps(3901), chain(100, ONE))), "steps")
        self.assertIsNotNone(run(("tuple", (steps(3900), chain(99, ONE))), [])[0])
        self.check(("tuple", (chain(100, ONE), steps(4000))), "depth")
        self.check(("tuple", (steps(4000), chain(100, ONE))), "steps")


class TestPaths(unittest.TestCase):
    def check(self, term, name, kind=TooLarge):
        with self.assertRaises(kind) as caught:
            paths(term)
        self.assertEqual(caught.exception.name, name)

    def test_example_of_the_document(self):
        found = paths(("weigh", ((1, ("const", 7)), (2, ("discard",)))))
        self.assertEqual(found, [((0,), (3,), 7), ((1,), (3,), None), ((2,), (3,), None)])

    def test_kinds(self):
        found = paths(("tuple", (COIN, COIN)))
        self.assertIs(type(found), list)
        for row in found:
            self.assertIs(type(row), tuple)
            self.assertEqual([type(item) for item in row], [tuple, tuple, tuple])
        found.pop()
        self.assertEqual(len(paths(("tuple", (COIN, COIN)))), 4)

    def test_without_draws(self):
        self.assertEqual(paths(ONE), [((), (), 1)])
        self.assertEqual(paths(LOST), [((), (), None)])
        self.assertEqual(paths(("tuple", (("range", 4, 4), ("pick", (TWO,))))), [((), (), (4, 2))])
        self.assertEqual(paths(("keep", EVEN, 4, ONE)), [((), (), None)])

    def test_draws_that_depend_on_others(self):
        term = ("pick", (COIN, ONE, ("tuple", (("range", 0, 2), LOST))))
        self.assertEqual(paths(term), [
            ((0, 0), (3, 2), 0), ((0, 1), (3, 2), 1), ((1,), (3,), 1), ((2, 0), (3, 3), None), ((2, 1), (3, 3), None), ((2, 2), (3, 3), None),
        ])
        self.assertEqual(paths(("let", "x", ("range", 0, 2), ("upto", "x"))), [
            ((0,), (3,), 0), ((1, 0), (3, 2), 0), ((1, 1), (3, 2), 1), ((2, 0), (3, 3), 0), ((2, 1), (3, 3), 1), ((2, 2), (3, 3), 2),
        ])
        self.assertEqual(paths(("list", 0, 2, COIN)), [
            ((0,), (3,), ()), ((1, 0), (3, 2), (0,)), ((1, 1), (3, 2), (1,)), ((2, 0, 0), (3, 2, 2), (0, 0)), ((2, 0, 1), (3, 2, 2), (0, 1)),
            ((2, 1, 0), (3, 2, 2), (1, 0)), ((2, 1, 1), (3, 2, 2), (1, 1)),
        ])
        self.assertEqual(paths(("keep", ("equals", 1), 2, COIN)), [
            ((0, 0), (2, 2), None), ((0, 1), (2, 2), 1), ((1,), (2,), 1),
        ])

    def test_every_run_once_and_in_ascending_order(self):
        many = 0
        for term in made_terms(1000):
            try:
                found = paths(term)
            except TooLarge:
                continue
            many += len(found)
            told = [row[0] for row in found]
            self.assertEqual(told, sorted(set(told)))
            share = 0
            whole = 6 ** 60
            for numbers, sizes, value in found:
                self.assertEqual(len(numbers), len(sizes))
                self.assertTrue(all(0 <= number < size for number, size in zip(numbers, sizes)))
                self.assertEqual(run(term, list(numbers)), (value, list(numbers)))
                part = whole
                for size in sizes:
                    self.assertEqual(part % size, 0)
                    part //= size
                share += part
            self.assertEqual(share, whole, term)
        self.assertGreater(many, 10000)

    def test_invalid(self):
        for thing in NO_TERMS + [("tuple", (runs(3001), X)), ("tuple", (steps(4001), X)), ("tuple", (chain(101, ONE), X))]:
            self.check(thing, "term", Invalid)

    def test_3000_runs(self):
        term = ("tuple", (("range", 1, 50), ("range", 1, 60)))
        found = paths(term)
        self.assertEqual(len(found), 3000)
        self.assertEqual((found[0], found[2999]), (((0, 0), (50, 60), (1, 1)), ((49, 59), (50, 60), (50, 60))))
        for count in (2999, 3000):
            self.assertEqual(len(paths(runs(count))), count)

    def test_more_runs(self):
        self.check(("tuple", (("range", 1, 51), ("range", 1, 60))), "paths")
        self.check(runs(3001 + 1), "paths")
        self.check(("pick", (("tuple", (("range", 1, 50), ("range", 1, 60))), ONE)), "paths")
        self.check(("weigh", ((3000, ONE), (1, TWO))), "paths")
        self.check(("weigh", ((TOP, ONE), (1, TWO))), "paths")
        self.check(("list", 6, 6, ("list", 6, 6, DIE)), "paths")
        self.assertEqual(len(paths(("weigh", ((2999, ONE), (1, TWO))))), 3000)

    def test_discarded_runs_count(self):
        self.assertEqual(len(paths(("weigh", ((1, ONE), (2999, LOST))))), 3000)
        self.check(("weigh", ((1, ONE), (3000, LOST))), "paths")

    def test_too_many_steps_or_too_deep_at_a_run(self):
        for heavy, name in ((steps(4000), "steps"), (chain(100, ONE), "depth")):
            self.check(("pick", (heavy, ONE)), name)
            for count in (1, 2, 2998, 2999):
                self.check(("weigh", ((count, ONE), (1, heavy))), name)
                self.check(("weigh", ((count, ONE), (HUGE % TOP + 5000, heavy))), name)
            for count in (3000, 3001, 4000):
                self.check(("weigh", ((count, ONE), (1, heavy))), "paths")
            self.check(("weigh", ((1, heavy), (5000, ONE))), name)
            self.check(("weigh", ((2998, ONE), (1, heavy), (5000, ONE))), name)
            self.check(("pick", (runs(2999), heavy)), name)
            self.check(("pick", (runs(3000), heavy)), "paths")

    def test_the_first_error_counts(self):
        self.check(("pick", (ONE, steps(4000), chain(100, ONE))), "steps")
        self.check(("pick", (ONE, chain(100, ONE), steps(4000))), "depth")

    def test_steps_of_each_run_count_from_zero(self):
        self.assertEqual(len(paths(("tuple", (("range", 1, 5), steps(3998))))), 5)


class TestTrimmed(unittest.TestCase):
    def test_trimmed(self):
        cases = [
            ([], []), ([0], []), ([0, 0, 0], []), ([1], [1]), ([1, 0], [1]), ([1, 0, 0], [1]), ([0, 1], [0, 1]), ([0, 0, 1, 0, 2, 0, 0], [0, 0, 1, 0, 2]),
            ([HUGE, 0, HUGE], [HUGE, 0, HUGE]), ([10, 20], [10, 20]),
        ]
        for numbers, found in cases:
            before = list(numbers)
            self.assertEqual(trimmed(numbers), found)
            self.assertEqual(numbers, before)
            self.assertIs(type(trimmed(numbers)), list)
            self.assertIsNot(trimmed(numbers), numbers)

    def test_of_told_numbers_of_a_path(self):
        self.assertEqual(trimmed((0, 3, 0)), [0, 3])


class TestShorter(unittest.TestCase):
    def test_order(self):
        ordered = [
            [], [1], [2], [10], [HUGE], [0, 1], [0, 2], [1, 1], [1, 2], [2, 1], [10, 1], [0, 0, 1], [0, 0, 5], [0, 1, 1], [1, 0, 1], [1, 1, 1],
            [HUGE, 0, 1], [0, 0, 0, 1], [1, 0, 0, 1],
        ]
        for first, one in enumerate(ordered):
            for second, two in enumerate(ordered):
                with self.subTest(one=one, two=two):
                    self.assertIs(shorter(one, two), first < second)
                    self.assertIs(shorter(list(one), list(two)), first < second)

    def test_arguments_unchanged(self):
        one, two = [3, 0, 1], [3, 0, 2]
        shorter(one, two)
        self.assertEqual((one, two), ([3, 0, 1], [3, 0, 2]))


class TestTapeOf(unittest.TestCase):
    def check(self, term, value, name, kind):
        with self.assertRaises(kind) as caught:
            tape_of(term, value)
        self.assertEqual(caught.exception.name, name)

    def test_one_path(self):
        self.assertEqual(tape_of(ONE, 1), [])
        self.assertEqual(tape_of(DIE, 1), [])
        self.assertEqual(tape_of(DIE, 6), [5])
        self.assertEqual(tape_of(("tuple", (DIE, DIE)), (1, 1)), [])
        self.assertEqual(tape_of(("tuple", (DIE, DIE)), (3, 1)), [2])
        self.assertEqual(tape_of(("tuple", (DIE, DIE)), (1, 3)), [0, 2])
        self.assertEqual(tape_of(("tuple", (DIE, DIE, DIE)), (1, 3, 1)), [0, 2])

    def test_several_paths(self):
        both = ("map", ("sum",), ("tuple", (("range", 0, 3), ("range", 0, 3))))
        self.assertEqual(tape_of(both, 3), [3])
        self.assertEqual(tape_of(both, 4), [1, 3])
        self.assertEqual(tape_of(both, 0), [])
        self.assertEqual(tape_of(both, 6), [3, 3])
        # The first path that gives 1 is (0, 1), but the tape [1] is shorter.
        self.assertEqual(tape_of(("pick", (COIN, ONE)), 1), [1])
        self.assertEqual(tape_of(("pick", (("const", 0), COIN, TWO, ONE)), 1), [3])
        self.assertEqual(tape_of(("pick", (("const", 0), COIN, ("tuple", ()))), 0), [])
        self.assertEqual(tape_of(("pick", (LOST, ONE, ONE)), 1), [1])
        self.assertEqual(tape_of(("pick", (LOST, ("range", 1, 2), TWO)), 2), [2])
        # Zeros at the end go first: (2, 0) gives [2], which comes before [0, 1].
        self.assertEqual(tape_of(("pick", (("range", 4, 5), ONE, ("range", 5, 6))), 5), [2])

    def test_nested_values(self):
        term = ("shuffle", ((), (1, (2,)), 3))
        for _, _, value in paths(term):
            self.assertEqual(run(term, tape_of(term, value))[0], value)

    def test_agrees_with_all_paths(self):
        for term in made_terms(600):
            try:
                found = [(trimmed(told), value) for told, _, value in paths(term) if value is not None]
            except TooLarge:
                continue
            for value in {row[1] for row in found[:40]}:
                tapes = sorted([row[0] for row in found if row[1] == value], key=lambda tape: (len(tape), tape))
                self.assertEqual(tape_of(term, value), tapes[0])
                self.assertEqual(run(term, tapes[0])[0], value)

    def test_impossible(self):
        for value in (0, 7, -1, (), (1,), HUGE, (3, (4,))):
            self.check(DIE, value, "value", Impossible)
            self.check(LOST, value, "value", Impossible)
        self.check(("tuple", (ONE,)), 1, "value", Impossible)
        self.check(("tuple", (ONE, TWO)), (2, 1), "value", Impossible)
        self.check(("pick", (LOST, LOST)), 0, "value", Impossible)

    def test_errors_of_paths_come_first(self):
        for value in (1, 77):
            for thing in NO_TERMS:
                self.check(thing, value, "term", Invalid)
            self.check(runs(3002), value, "paths", TooLarge)
            self.check(("weigh", ((3000, ONE), (1, TWO))), value, "paths", TooLarge)
            self.check(("pick", (ONE, steps(4000))), value, "steps", TooLarge)
            self.check(("pick", (ONE, chain(100, ONE))), value, "depth", TooLarge)

    def test_list_is_a_new_one(self):
        found = tape_of(DIE, 6)
        self.assertIs(type(found), list)
        found.append(9)
        self.assertEqual(tape_of(DIE, 6), [5])
        self.assertIsNot(tape_of(ONE, 1), tape_of(ONE, 1))

    def test_values_beyond_the_limits(self):
        term = ("map", ("flat",), ("tuple", (("const", (1,) * 64), ("const", (2,) * 63), ("tuple", (DIE,)))))
        self.assertEqual(tape_of(term, (1,) * 64 + (2,) * 63 + (4,)), [3])
        self.check(term, (1,) * 64 + (2,) * 63 + (7,), "value", Impossible)


class TestErrors(unittest.TestCase):
    def test_all_are_refused(self):
        calls = [
            lambda: run(X, []), lambda: run(steps(4001), []), lambda: paths(runs(4000)), lambda: tape_of(ONE, 2), lambda: run(chain(101, ONE), []),
        ]
        for call in calls:
            with self.assertRaises(Refused):
                call()


if __name__ == "__main__":
    unittest.main()
