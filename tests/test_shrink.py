"""Points 23 to 25 and chance/shrink.py."""

import unittest

from makers import COIN, DIE, EVEN, HUGE, LOST, NO_TERMS, ONE, TOP, TWO, X, chain, made_terms, steps
from chance.checks import holds
from chance.errors import Impossible, Invalid, Refused, TooLarge
from chance.shrink import candidates, is_least, paper, shrink
from chance.tapes import paths, run, trimmed

DIGIT = ("range", 0, 9)
NUMBERS = ("list", 0, 4, DIGIT)
BIG = ("not", ("less", 10))
ALWAYS = ("not", ("size", -1))


def below(numbers):
    """Point 24, word by word."""
    tapes = []
    for at in range(len(numbers)):
        tapes.append([number for place, number in enumerate(numbers) if place != at])
    for at, number in enumerate(numbers):
        if number != 0:
            others = [0] + [number - 2 ** power for power in range(200, -1, -1) if 2 ** power <= number]
            tapes.extend([[other if place == at else old for place, old in enumerate(numbers)] for other in others])
    found = []
    for tape in tapes:
        while tape and tape[-1] == 0:
            tape = tape[:-1]
        if tape not in found:
            found.append(tape)
    return found


def fails(term, test, numbers):
    value, _ = run(term, numbers)
    return value is not None and holds(test, value)


def shrunk(term, test, numbers):
    """Point 25, word by word."""
    now = trimmed(run(term, numbers)[1])
    while True:
        failing = [tape for tape in below(now) if fails(term, test, tape)]
        if not failing:
            return now
        now = trimmed(run(term, failing[0])[1])


class TestCandidates(unittest.TestCase):
    def check(self, numbers, found):
        with self.subTest(numbers=numbers):
            before = list(numbers)
            self.assertEqual(candidates(numbers), found)
            self.assertEqual(candidates(numbers), below(numbers))
            self.assertEqual(numbers, before)

    def test_empty_tape(self):
        self.check([], [])

    def test_one_number(self):
        self.check([1], [[]])
        self.check([2], [[], [1]])
        self.check([3], [[], [1], [2]])
        self.check([4], [[], [2], [3]])
        self.check([5], [[], [1], [3], [4]])
        self.check([6], [[], [2], [4], [5]])
        self.check([7], [[], [3], [5], [6]])
        self.check([8], [[], [4], [6], [7]])
        self.check([9], [[], [1], [5], [7], [8]])
        self.check([63], [[], [31], [47], [55], [59], [61], [62]])
        self.check([64], [[], [32], [48], [56], [60], [62], [63]])
        self.check([65], [[], [1], [33], [49], [57], [61], [63], [64]])
        self.assertEqual(len(candidates([TOP])), 51)
        self.assertEqual(candidates([TOP])[1], [TOP - 2 ** 49])
        self.check([TOP], below([TOP]))
        self.check([HUGE], below([HUGE]))
        self.check([2 ** 130], below([2 ** 130]))

    def test_order(self):
        self.check([5, 3], [[3], [5], [0, 3], [1, 3], [3, 3], [4, 3], [5, 1], [5, 2]])
        self.check([3, 5, 2], [
            [5, 2], [3, 2], [3, 5], [0, 5, 2], [1, 5, 2], [2, 5, 2], [3, 0, 2], [3, 1, 2], [3, 3, 2], [3, 4, 2], [3, 5, 1],
        ])

    def test_each_listed_once(self):
        self.check([1, 1], [[1], [0, 1]])
        self.check([2, 2], [[2], [0, 2], [1, 2], [2, 1]])
        self.check([7, 7, 7], below([7, 7, 7]))
        self.check([1, 1, 1], [[1, 1], [0, 1, 1], [1, 0, 1]])
        self.check([2, 1, 1, 2], [[1, 1, 2], [2, 1, 2], [2, 1, 1], [0, 1, 1, 2], [1, 1, 1, 2], [2, 0, 1, 2], [2, 1, 0, 2], [2, 1, 1, 1]])

    def test_zeros(self):
        self.check([0, 1], [[1], []])
        self.check([0, 0, 1], [[0, 1], []])
        self.check([1, 0, 1], [[0, 1], [1, 1], [1], [0, 0, 1]])
        self.check([0, 2, 0, 3], [[2, 0, 3], [0, 0, 3], [0, 2, 3], [0, 2], [0, 0, 0, 3], [0, 1, 0, 3], [0, 2, 0, 1], [0, 2, 0, 2]])
        # Zeros that come to stand at the end are removed.
        self.check([3, 0, 0, 2], [[0, 0, 2], [3, 0, 2], [3], [0, 0, 0, 2], [1, 0, 0, 2], [2, 0, 0, 2], [3, 0, 0, 1]])
        self.check([1, 2], [[2], [1], [0, 2], [1, 1]])

    def test_many(self):
        for first in range(6):
            for second in range(6):
                for third in range(1, 6):
                    self.check([first, second, third], below([first, second, third]))
                    self.check([first, 0, second, third], below([first, 0, second, third]))

    def test_lists_are_new(self):
        numbers = [3, 4]
        found = candidates(numbers)
        for tape in found:
            self.assertIs(type(tape), list)
            tape.append(9)
        self.assertEqual(numbers, [3, 4])
        self.assertEqual(candidates(numbers), below(numbers))
        self.assertIs(type(candidates([])), list)
        # No two entries are the same list.
        self.assertEqual(len({id(tape) for tape in found}), len(found))


class TestShrink(unittest.TestCase):
    def check(self, term, test, numbers, found):
        with self.subTest(term=term, test=test, numbers=numbers):
            before = list(numbers)
            least = shrink(term, test, numbers)
            self.assertEqual(least, found)
            self.assertEqual(numbers, before)
            self.assertIs(type(least), list)
            self.assertIsNot(least, numbers)
            self.assertEqual(trimmed(least), least)
            self.assertIs(fails(term, test, least), True)
            for tape in below(least):
                self.assertIs(fails(term, test, tape), False)
            self.assertEqual(shrink(term, test, least), least)
            self.assertIs(is_least(term, test, least, paper(term, least)), True)

    def check_error(self, term, test, numbers, name="tape", kind=Impossible):
        with self.assertRaises(kind) as caught:
            shrink(term, test, numbers)
        self.assertEqual(caught.exception.name, name)
        self.assertIsInstance(caught.exception, Refused)

    def test_example_of_the_document(self):
        self.check(NUMBERS, BIG, [3, 9, 2, 7], [2, 3, 7])

    def test_simple_ones(self):
        self.check(DIGIT, ("not", ("less", 4)), [9], [4])
        self.check(DIGIT, ("not", ("less", 4)), [4], [4])
        self.check(DIGIT, ALWAYS, [9], [])
        self.check(DIGIT, ALWAYS, [], [])
        self.check(ONE, ("not", EVEN), [], [])
        self.check(ONE, ("not", EVEN), [5, 6], [])
        self.check(("tuple", (DIGIT, DIGIT)), BIG, [9, 9], [1, 9])
        self.check(("tuple", (DIGIT, DIGIT)), ("equals", (3, 5)), [3, 5], [3, 5])
        self.check(("tuple", (DIGIT, DIGIT)), ("equals", (3, 0)), [3], [3])
        self.check(("list", 0, 4, COIN), ("size", 2), [2, 1, 1], [2])
        self.check(("shuffle", (1, 2, 3)), ("rising",), [2, 1], [2, 1])
        self.check(("pick", (ONE, TWO, LOST, TWO)), EVEN, [3], [1])
        self.check(("weigh", ((TOP, ONE), (TOP, TWO), (TOP, TWO))), EVEN, [3 * TOP - 1], [TOP])
        self.check(("keep", EVEN, 4, DIE), ("less", 3), [0, 2, 4, 1], [1])

    def test_numbers_above_the_sizes(self):
        self.check(DIGIT, ("not", ("less", 4)), [19], [4])
        self.check(DIGIT, ("not", ("less", 4)), [HUGE + 7], [4])
        self.check(("tuple", (DIGIT, DIGIT)), ("equals", (3, 5)), [13, 25], [3, 5])
        self.check(NUMBERS, BIG, [8, 19, 12, 37], [2, 3, 7])

    def test_more_numbers_than_the_run_takes(self):
        self.check(DIGIT, ("not", ("less", 4)), [9, 5, 5, 5], [4])
        self.check(NUMBERS, BIG, [3, 9, 2, 7, 0, 0, 8], [2, 3, 7])
        self.check(ONE, ALWAYS, [0, 0, 0], [])

    def test_tape_used_up(self):
        self.check(NUMBERS, ("not", ("less", 3)), [4, 3], [1, 3])
        self.check(NUMBERS, ("size", 4), [4], [4])

    def test_zeros_at_the_end(self):
        self.check(NUMBERS, ("equals", (0, 5, 0)), [3, 0, 5, 0], [3, 0, 5])
        self.check(NUMBERS, ("equals", (0, 5, 0)), [3, 0, 5, 0, 0, 0], [3, 0, 5])
        self.check(NUMBERS, ("size", 2), [2, 0, 0], [2])

    def test_the_told_numbers_take_the_place(self):
        # Without its first number, the tape [1, 5, 12] becomes [5, 12], whose run tells [0].
        term = ("pick", (("range", 0, 1), ("tuple", (DIGIT, DIGIT))))
        self.check(term, ALWAYS, [1, 5, 2], [])
        term = ("let", "x", ("range", 0, 3), ("tuple", (X, ("upto", "x"), ("upto", "x"))))
        self.check(term, ("not", ("less", 4)), [3, 3, 3], shrunk(term, ("not", ("less", 4)), [3, 3, 3]))
        term = ("list", 0, 3, ("list", 0, 3, ("range", 0, 5)))
        self.check(term, ("not", ("less", 8)), [3, 3, 5, 5, 5, 3, 5, 5, 5], shrunk(term, ("not", ("less", 8)), [3, 3, 5, 5, 5, 3, 5, 5, 5]))

    def test_point_25_word_by_word(self):
        tests = [BIG, ALWAYS, EVEN, ("not", EVEN), ("size", 2), ("not", ("less", 3)), ("not", ("rising",)), ("any", ("equals", 1)), ("not", ("equals", 0))]
        many = 0
        for at, term in enumerate(made_terms(500)):
            try:
                rows = paths(term)
            except TooLarge:
                continue
            test = tests[at % len(tests)]
            failing = [list(told) for told, _, value in rows if value is not None and holds(test, value)]
            for numbers in failing[-1:] + failing[len(failing) // 2:][:1]:
                many += 1
                self.check(term, test, numbers, shrunk(term, test, numbers))
                higher = [number + size for number, size in zip(numbers, [sizes for told, sizes, _ in rows if list(told) == numbers][0])]
                self.check(term, test, higher + [3, 0], shrunk(term, test, numbers))
            other = [list(told) for told, _, value in rows if value is None or not holds(test, value)]
            for numbers in other[:1] + other[-1:]:
                self.check_error(term, test, numbers)
        self.assertGreater(many, 300)
        for numbers in ([3, 9, 2, 7], [4, 9, 9, 9, 9], [4, 1, 2, 3, 4], [4, 0, 0, 0, 9], [4, 8, 0, 4, 0], [2, 5, 5]):
            for test in (BIG, ("not", ("rising",)), ("any", ("not", ("less", 7))), ("not", ("all", ("less", 4))), ("both", EVEN, ("not", ("less", 1)))):
                if fails(NUMBERS, test, numbers):
                    self.check(NUMBERS, test, numbers, shrunk(NUMBERS, test, numbers))
                else:
                    self.check_error(NUMBERS, test, numbers)

    def test_impossible(self):
        self.check_error(LOST, ALWAYS, [])
        self.check_error(LOST, ALWAYS, [3, 4])
        self.check_error(DIGIT, BIG, [9])
        self.check_error(("pick", (ONE, LOST)), ALWAYS, [1])
        self.check_error(NUMBERS, BIG, [])
        self.check_error(NUMBERS, BIG, [4, 2, 2, 2, 3])

    def test_errors_of_run(self):
        for thing in NO_TERMS:
            self.check_error(thing, ALWAYS, [], "term", Invalid)
        self.check_error(steps(4001), ALWAYS, [], "steps", TooLarge)
        self.check_error(chain(101, ONE), ALWAYS, [], "depth", TooLarge)
        # The tape fails, but a tape below it has no run.
        for heavy, name in ((steps(4000), "steps"), (chain(100, ONE), "depth")):
            term = ("pick", (ONE, heavy, TWO))
            self.check_error(term, EVEN, [2], name, TooLarge)
            self.check_error(("pick", (heavy, TWO)), EVEN, [1], name, TooLarge)
            self.check(term, ("not", EVEN), [0], [])
            # Here a tape before it fails already.
            self.check(("pick", (TWO, heavy, TWO)), EVEN, [2], [])


class TestPaper(unittest.TestCase):
    def check(self, term, numbers, rows):
        with self.subTest(term=term, numbers=numbers):
            before = list(numbers)
            found = paper(term, numbers)
            self.assertEqual(found, rows)
            self.assertIs(type(found), list)
            for row in found:
                self.assertIs(type(row), tuple)
                self.assertIs(type(row[0]), list)
                row[0].append(1)
            self.assertEqual(numbers, before)
            self.assertEqual(paper(term, numbers), rows)

    def test_values(self):
        self.check(DIGIT, [], [])
        self.check(DIGIT, [5], [([], 0), ([1], 1), ([3], 3), ([4], 4)])
        self.check(("tuple", (DIGIT, DIGIT)), [2, 3], [([3], (3, 0)), ([2], (2, 0)), ([0, 3], (0, 3)), ([1, 3], (1, 3)), ([2, 1], (2, 1)), ([2, 2], (2, 2))])
        self.check(NUMBERS, [1, 1], [([1], (0,)), ([0, 1], ())])
        self.check(DIGIT, [12], [([], 0), ([4], 4), ([8], 8), ([10], 0), ([11], 1)])
        self.check(ONE, [1, 2], [([2], 1), ([1], 1), ([0, 2], 1), ([1, 1], 1)])

    def test_discarded_runs(self):
        self.check(LOST, [3], [([], None), ([1], None), ([2], None)])
        self.check(("pick", (ONE, LOST, LOST, TWO)), [3], [([], 1), ([1], None), ([2], None)])
        self.check(("keep", EVEN, 1, DIE), [5], [([], None), ([1], 2), ([3], 4), ([4], None)])

    def test_against_the_words(self):
        for term in made_terms(300):
            for numbers in ([], [1], [3, 1], [1, 0, 2], [2, 2, 2]):
                self.check(term, numbers, [(tape, run(term, tape)[0]) for tape in below(numbers)])

    def test_errors_of_run(self):
        for thing in NO_TERMS:
            with self.assertRaises(Invalid):
                paper(thing, [3])
        for heavy, name in ((steps(4000), "steps"), (chain(100, ONE), "depth")):
            with self.assertRaises(TooLarge) as caught:
                paper(("pick", (ONE, heavy, ONE)), [2])
            self.assertEqual(caught.exception.name, name)


class TestIsLeast(unittest.TestCase):
    LEAST = [2, 3, 7]

    def check(self, told, answer, term=NUMBERS, test=BIG, numbers=None):
        with self.subTest(told=told):
            tape = list(self.LEAST if numbers is None else numbers)
            before = (list(tape), repr(told))
            self.assertIs(is_least(term, test, tape, told), answer)
            self.assertEqual((tape, repr(told)), before)

    def test_right_paper(self):
        self.check(paper(NUMBERS, self.LEAST), True)
        self.check([([], 0), ([2], 2), ([3], 3)], True, DIGIT, ("not", ("less", 4)), [4])
        self.check([], True, DIGIT, ALWAYS, [])
        self.check([], True, ONE, ALWAYS, [])

    def test_changed_entries(self):
        rows = paper(NUMBERS, self.LEAST)
        for at, (tape, value) in enumerate(rows):
            changes = [
                (tape + [1], value), (tape[:-1], value), (tape, None), (tape, 0), (tape, (value,)), (tape, value + (0,)), (tape, list(value)), (tape,),
                (tape, value, value), [tape, value], (tuple(tape), value), (value, tape), None, (), tape, value, 5, "", (tape, True), (tape, 1.0),
                ([float(number) for number in tape], value), (tape, tuple([float(number) for number in value]) if value else 0.0),
            ]
            for change in changes:
                self.check(rows[:at] + [change] + rows[at + 1:], False)
            self.check(rows[:at] + rows[at + 1:], False)
            self.check(rows[:at] + [rows[at]] + rows[at:], False)
            self.check(rows[:at] + rows[at + 1:] + [rows[at]], at == len(rows) - 1)
        self.check(rows + [([], ())], False)
        self.check(rows + [None], False)

    def test_true_and_false_are_no_integers(self):
        term = ("tuple", (COIN, COIN))
        test = ("equals", (1, 1))
        rows = paper(term, [1, 1])
        self.check(rows, True, term, test, [1, 1])
        self.assertEqual(rows, [([1], (1, 0)), ([0, 1], (0, 1))])
        for wrong in ([([True], (1, 0)), ([0, 1], (0, 1))], [([1], (True, 0)), ([0, 1], (0, 1))], [([1], (1, False)), ([0, 1], (0, 1))],
                      [([1], (1, 0)), ([False, 1], (0, 1))], [([1.0], (1, 0)), ([0, 1], (0, 1))]):
            self.assertEqual(wrong, rows)
            self.check(wrong, False, term, test, [1, 1])
        rows = paper(("pick", (TWO, LOST, LOST, ONE)), [3])
        self.assertEqual(rows, [([], 2), ([1], None), ([2], None)])
        self.check(rows, True, ("pick", (TWO, LOST, LOST, ONE)), ("not", EVEN), [3])
        for wrong in (False, 0, (), [], "", 0.0):
            self.check([([], 2), ([1], wrong), ([2], None)], False, ("pick", (TWO, LOST, LOST, ONE)), ("not", EVEN), [3])

    def test_things_of_other_kinds(self):
        rows = paper(NUMBERS, self.LEAST)
        knot = []
        knot.append(knot)
        for thing in (None, 0, True, "", "paper", b"", 1.0, {}, {0: rows}, set(), tuple(rows), [rows], (rows,), iter(rows), object(), range(5), knot, len):
            self.check(thing, False)
        for thing in (None, 0, False, "", (), {}, set(), b"", 0.0, [None], [[]], [()]):
            self.check(thing, False, DIGIT, ALWAYS, [])

    def test_tape_below_which_one_fails(self):
        for numbers in ([3, 9, 2, 7], [2, 3, 8], [2, 4, 7], [3, 0, 3, 7], [2, 9, 9]):
            self.assertIs(fails(NUMBERS, BIG, numbers), True)
            self.check(paper(NUMBERS, numbers), False, numbers=numbers)
        self.check(paper(DIGIT, [5]), False, DIGIT, ("not", ("less", 4)), [5])
        self.check(paper(DIGIT, [1]), False, DIGIT, ALWAYS, [1])

    def test_tape_that_does_not_fail(self):
        for numbers in ([], [2, 3, 6], [1, 9], [2, 1]):
            self.check(paper(NUMBERS, numbers), False, numbers=numbers)
        self.check(paper(LOST, []), False, LOST, ALWAYS, [])
        self.check(paper(("pick", (ONE, LOST)), [1]), False, ("pick", (ONE, LOST)), ALWAYS, [1])

    def test_against_the_words(self):
        answers = []
        for at, term in enumerate(made_terms(300)):
            test = [EVEN, ("not", EVEN), ("not", ("less", 2)), ("size", 2)][at % 4]
            for numbers in ([], [1], [3, 1], [1, 0, 2], [2, 2, 2]):
                rows = paper(term, numbers)
                answer = fails(term, test, numbers) and not any(fails(term, test, tape) for tape in below(numbers))
                answers.append(answer)
                self.check(rows, answer, term, test, numbers)
                self.check(rows + [([9], 9)], False, term, test, numbers)
        self.assertGreater(answers.count(True), 50)

    def test_values_far_beyond_the_limits(self):
        deep = COIN
        for _ in range(20):
            deep = ("tuple", (deep,))
        rows = paper(deep, [1])
        self.check(rows, True, deep, ("not", EVEN), [1])
        self.check([([], (rows[0][1],))], False, deep, ("not", EVEN), [1])

    def test_errors_of_run(self):
        for thing in NO_TERMS:
            with self.assertRaises(Invalid):
                is_least(thing, ALWAYS, [3], [])
        for heavy, name in ((steps(4000), "steps"), (chain(100, ONE), "depth")):
            for term in (("pick", (heavy, TWO, TWO)), ("pick", (ONE, heavy, TWO)), ("pick", (ONE, ONE, heavy))):
                for told in ([], None, paper(("pick", (ONE, TWO, TWO)), [2])):
                    with self.assertRaises(TooLarge) as caught:
                        is_least(term, EVEN, [2], told)
                    self.assertEqual(caught.exception.name, name)


if __name__ == "__main__":
    unittest.main()
