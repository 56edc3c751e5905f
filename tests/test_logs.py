"""Points 9 and 21 and chance/logs.py."""

import unittest

from makers import COIN, DIE, EVEN, HUGE, LOST, NO_TERMS, ONE, SELF, TOP, TWO, X, Y, Maker, made_terms
from chance.errors import BadStep, Invalid, Refused, TooLarge
from chance.logs import is_step, replay, stepped, term_at
from chance.measure import spread
from chance.normal import normal
from chance.rules import RULES, apply_rule
from chance.terms import is_term, parts_of

NAMES = [
    "pick-weigh", "weigh-flat", "weigh-merge", "weigh-swap", "weigh-reduce", "weigh-one", "range-weigh", "map-inside", "tuple-const", "tuple-at",
    "list-weigh", "shuffle-weigh", "keep-inside", "let-inside", "let-unused", "grow-unfold",
]
NO_STEPS = [
    None, 5, True, "", "pick-weigh", (), ("pick-weigh",), ("pick-weigh", ()), ("pick-weigh", (), (), ()), ["pick-weigh", (), ()], ("pick-weigh", [], ()),
    ("pick-weigh", (), []), ("pick", (), ()), ((), (), ()), {}, ("pick-weigh", (True,), ()), ("pick-weigh", (), (-1,)), ("pick-weigh", None, ()), object(),
]


def inside(term):
    """The term in a weigh in a map in the second part of a tuple."""
    return ("tuple", (ONE, ("map", ("sum",), ("weigh", ((2, LOST), (1, term))))))


INSIDE = (1, 0, 1)


class TestIsStep(unittest.TestCase):
    def test_names(self):
        self.assertEqual(sorted(NAMES), sorted(RULES))
        for name in NAMES:
            self.assertIs(is_step((name, (), ())), True)
            self.assertIs(is_step((name, (0, 1, 2), (3, 4))), True)

    def test_unknown_words(self):
        for word in ("", "pick", "weigh", "Pick-weigh", "pick-weigh ", " pick-weigh", "pick_weigh", "pickweigh", "const", "even", "sum", "tuple"):
            self.assertIs(is_step((word, (), ())), False)

    def test_no_words(self):
        for thing in (0, True, None, b"pick-weigh", (), ("pick-weigh",), [], ["pick-weigh"], {}, {"pick-weigh"}, 1.0, object(), len):
            self.assertIs(is_step((thing, (), ())), False)

    def test_numbers(self):
        for number in (0, 1, 64, TOP - 1, TOP):
            self.assertIs(is_step(("weigh-flat", (number,), ())), True)
            self.assertIs(is_step(("weigh-flat", (), (number,))), True)
            self.assertIs(is_step(("weigh-flat", (0, number, 1), (number, number))), True)
        for thing in (-1, -TOP, TOP + 1, HUGE, True, False, None, "", "0", b"0", 0.0, 1.0, 1j, (), (0,), [], [0], {}, {0}, object()):
            with self.subTest(thing=thing):
                self.assertIs(is_step(("weigh-flat", (thing,), ())), False)
                self.assertIs(is_step(("weigh-flat", (), (thing,))), False)
                self.assertIs(is_step(("weigh-flat", (0, thing), (1,))), False)
                self.assertIs(is_step(("weigh-flat", (0,), (thing, 1))), False)

    def test_lists_in_the_place_of_tuples(self):
        for thing in (["weigh-flat", (), ()], ("weigh-flat", [], ()), ("weigh-flat", (), []), ("weigh-flat", [0], (0,)), ("weigh-flat", (0,), [0])):
            self.assertIs(is_step(thing), False)

    def test_missing_and_spare_items(self):
        for thing in ((), ("weigh-flat",), ("weigh-flat", ()), ("weigh-flat", (), (), ()), ("weigh-flat", (), (), 0), ("weigh-flat", (), (), None)):
            self.assertIs(is_step(thing), False)

    def test_other_kinds_of_paths_and_numbers(self):
        for thing in (None, 0, 1, True, "", "01", b"", b"ab", {}, {0: 1}, set(), frozenset(), range(2), iter(()), object(), 1.0):
            self.assertIs(is_step(("weigh-flat", thing, ())), False)
            self.assertIs(is_step(("weigh-flat", (), thing)), False)

    def test_things_of_any_other_kind(self):
        for thing in NO_STEPS + [0, 1.0, 1j, b"abc", "abc", [], set(), {"weigh-flat"}, {"weigh-flat": ()}, range(3), len, Ellipsis]:
            self.assertIs(is_step(thing), False)
        knot = []
        knot.append(knot)
        self.assertIs(is_step(knot), False)
        self.assertIs(is_step(("weigh-flat", (knot,), ())), False)


class TestTermAt(unittest.TestCase):
    def test_empty_path(self):
        for term in made_terms(50) + [X, SELF]:
            self.assertEqual(term_at(term, ()), term)

    def test_each_head(self):
        cases = [
            (("pick", (ONE, TWO, LOST)), [ONE, TWO, LOST]), (("weigh", ((5, ONE), (6, TWO))), [ONE, TWO]), (("tuple", (TWO, ONE)), [TWO, ONE]),
            (("tuple", ()), []), (("list", 1, 2, DIE), [DIE]), (("map", ("add", 1), DIE), [DIE]), (("keep", EVEN, 1, DIE), [DIE]),
            (("let", "x", ONE, X), [ONE, X]), (("grow", 2, TWO, SELF), [TWO, SELF]), (ONE, []), (LOST, []), (DIE, []), (X, []), (("upto", "x"), []),
            (SELF, []), (("shuffle", (1, 2)), []), (("const", (1, 2)), []),
        ]
        for term, parts in cases:
            with self.subTest(term=term):
                self.assertEqual(parts_of(term), parts)
                for at, part in enumerate(parts):
                    self.assertEqual(term_at(term, (at,)), part)
                for at in (len(parts), len(parts) + 1, HUGE, -1, -len(parts)):
                    if at != 0 or not parts:
                        self.assertIsNone(term_at(term, (at,)))
                    self.assertEqual(term_at(inside(term), INSIDE + (at,)), parts[at] if 0 <= at < len(parts) else None)

    def test_longer_paths(self):
        for term in (ONE, DIE, ("let", "x", ONE, X)):
            self.assertEqual(term_at(inside(term), INSIDE), term)
        self.assertEqual(term_at(inside(ONE), (1, 0)), ("weigh", ((2, LOST), (1, ONE))))
        self.assertEqual(term_at(inside(("let", "x", ONE, ("tuple", (Y, X)))), INSIDE + (1, 1)), X)
        for path in (INSIDE + (0,), INSIDE + (0, 0), (0, 0), (1, 1), (1, 0, 2), (2,), (1, 0, 0, 0), (0,) * 1000, (1, 0, 1) * 1000):
            self.assertIsNone(term_at(inside(ONE), path))

    def test_all_terms_inside(self):
        for term in made_terms(100):
            for at, part in enumerate(parts_of(term)):
                self.assertEqual(term_at(term, (at,)), part)
                for further, inner in enumerate(parts_of(part)):
                    self.assertEqual(term_at(term, (at, further)), inner)


class TestStepped(unittest.TestCase):
    def check(self, term, step, found):
        with self.subTest(term=term, step=step):
            before = repr(term)
            self.assertEqual(stepped(term, step), found)
            self.assertEqual(repr(term), before)

    def test_at_the_term_itself(self):
        self.check(("pick", (ONE, TWO)), ("pick-weigh", (), ()), ("weigh", ((1, ONE), (1, TWO))))
        self.check(("weigh", ((3, ONE), (2, TWO))), ("weigh-swap", (), (0, 1)), ("weigh", ((2, TWO), (3, ONE))))
        self.check(("tuple", (ONE, LOST)), ("tuple-at", (), (1,)), LOST)

    def test_at_inner_terms(self):
        self.check(inside(COIN), ("range-weigh", INSIDE, ()), inside(("weigh", ((1, ("const", 0)), (1, ONE)))))
        self.check(("list", 0, 2, ("tuple", (ONE,))), ("tuple-const", (0,), ()), ("list", 0, 2, ("const", (1,))))
        self.check(("keep", EVEN, 2, ("pick", (ONE,))), ("pick-weigh", (0,), ()), ("keep", EVEN, 2, ("weigh", ((1, ONE),))))
        self.check(("map", ("add", 1), ("map", ("add", 2), ONE)), ("map-inside", (0,), ()), ("map", ("add", 1), ("const", 3)))
        self.check(("let", "x", COIN, X), ("range-weigh", (0,), ()), ("let", "x", ("weigh", ((1, ("const", 0)), (1, ONE))), X))
        self.check(("let", "x", COIN, ("tuple", ())), ("tuple-const", (1,), ()), ("let", "x", COIN, ("const", ())))
        self.check(("grow", 1, COIN, SELF), ("range-weigh", (0,), ()), ("grow", 1, ("weigh", ((1, ("const", 0)), (1, ONE))), SELF))
        self.check(("grow", 1, COIN, ("pick", (SELF,))), ("pick-weigh", (1,), ()), ("grow", 1, COIN, ("weigh", ((1, SELF),))))
        self.check(("let", "x", ONE, ("let", "y", X, Y)), ("let-inside", (), ()), ("let", "y", ONE, Y))
        self.check(("let", "x", ONE, ("let", "y", TWO, ("tuple", (X, Y)))), ("let-inside", (1,), ()), ("let", "x", ONE, ("tuple", (X, TWO))))
        # Open terms inside.
        self.check(("let", "x", ONE, ("let", "y", X, ("tuple", (Y, X)))), ("let-inside", (1,), ()), None)
        self.check(("let", "x", ONE, ("grow", 1, X, SELF)), ("grow-unfold", (1,), ()), None)
        self.check(("let", "x", ONE, ("pick", (X, ONE))), ("pick-weigh", (1,), ()), ("let", "x", ONE, ("weigh", ((1, X), (1, ONE)))))

    def test_no_steps(self):
        for term in (("pick", (ONE, TWO)), ONE, inside(("pick", (ONE,)))):
            for thing in NO_STEPS:
                self.check(term, thing, None)

    def test_paths_that_lead_nowhere(self):
        for path in (INSIDE + (2,), (2,), (0, 0), INSIDE + (0, 0), (TOP,)):
            self.check(inside(("pick", (ONE,))), ("pick-weigh", path, ()), None)

    def test_rules_that_do_not_apply(self):
        self.check(inside(("pick", (ONE,))), ("pick-weigh", (), ()), None)
        self.check(inside(("pick", (ONE,))), ("pick-weigh", INSIDE, (0,)), None)
        self.check(inside(("pick", (ONE,))), ("weigh-one", (1, 0), ()), None)
        self.check(inside(("pick", (ONE,))), ("weigh-swap", (1, 0), (1, 0)), None)
        self.check(inside(("pick", (ONE,))), ("weigh-reduce", (1, 0), (TOP,)), None)
        for name in NAMES:
            self.check(ONE, (name, (), ()), None)

    def test_too_deep(self):
        for levels in (21, 22, 23):
            for last, step in ((COIN, "range-weigh"), (("shuffle", (1, 2)), "shuffle-weigh"), (("list", 1, 1, ONE), "list-weigh")):
                term = last
                for _ in range(levels):
                    term = ("map", ("sum",), term)
                depth = levels + (1 if last[0] != "list" else 2)
                if depth > 24:
                    continue
                self.assertIs(is_term(term), True)
                found = stepped(term, (step, (0,) * levels, ()))
                self.assertEqual(found is None, depth == 24)
        for levels in (19, 20, 21):
            deep = ONE
            for _ in range(levels):
                deep = ("map", ("sum",), deep)
            term = ("let", "x", ("weigh", ((1, ONE), (1, TWO))), ("tuple", (X, deep)))
            self.assertIs(is_term(term), True)
            self.assertEqual(stepped(term, ("let-inside", (), ())) is None, levels == 21)
            if levels < 21:
                self.assertEqual(stepped(("pick", (term,)), ("let-inside", (0,), ())) is None, levels == 20)
        for many in (9, 10, 11, 12):
            last = SELF
            for _ in range(many):
                last = ("map", ("sum",), last)
            self.assertEqual(stepped(("grow", 2, ONE, last), ("grow-unfold", (), ())) is None, 2 * many + 2 > 24)

    def test_values_beyond_point_2(self):
        for many, more in ((64, 0), (64, 1), (63, 1), (62, 2)):
            term = ("map", ("flat",), ("const", ((0,) * many, (1,) * more)))
            self.assertEqual(stepped(term, ("map-inside", (), ())) is None, many + more > 64)
        deep = 5
        for levels in range(1, 9):
            deep = (deep,)
            found = stepped(("tuple", (ONE, ("const", deep))), ("tuple-const", (), ()))
            self.assertEqual(found, ("const", (1, deep)) if levels < 8 else None)
            found = stepped(("pick", (("tuple", (ONE, ("const", deep))),)), ("tuple-const", (0,), ()))
            self.assertEqual(found, ("pick", (("const", (1, deep)),)) if levels < 8 else None)

    def test_too_many_parts(self):
        # A rule makes no tuple with too many terms; a term that has them already is none.
        term = ("tuple", (COIN,) * 65)
        self.check(term, ("range-weigh", (0,), ()), None)
        self.check(("tuple", (("tuple", ()), ("pick", (ONE,) * 65))), ("tuple-const", (0,), ()), None)
        self.check(("pick", (ONE,) * 64), ("pick-weigh", (), ()), ("weigh", ((1, ONE),) * 64))
        self.check(("pick", (ONE,) * 65), ("pick-weigh", (), ()), None)

    def test_free_variables_and_selfs(self):
        for free in (X, SELF, ("upto", "x"), ("let", "y", ONE, X), ("grow", 1, SELF, ONE)):
            self.check(("tuple", (free, COIN)), ("range-weigh", (1,), ()), None)
            self.check(("weigh", ((1, free),)), ("weigh-one", (), ()), None)
            self.check(("pick", (free,)), ("pick-weigh", (), ()), None)
        # What was open may become closed.
        self.check(("tuple", (X, LOST)), ("tuple-at", (), (1,)), LOST)
        self.check(("tuple", (SELF, LOST)), ("tuple-at", (), (1,)), LOST)
        self.check(("let", "x", X, ONE), ("let-unused", (), ()), ONE)

    def test_other_faults_of_the_whole(self):
        for wrong in (("const", True), ("pick", ()), ("range", 1, 0), ("tuple", (ONE,) * 65), ("keep", EVEN, 0, ONE)):
            self.check(("tuple", (wrong, COIN)), ("range-weigh", (1,), ()), None)


class TestReplay(unittest.TestCase):
    def check_bad(self, term, log, number):
        with self.subTest(term=term, log=log):
            with self.assertRaises(BadStep) as caught:
                replay(term, log)
            self.assertEqual(caught.exception.number, number)
            self.assertIsInstance(caught.exception, Refused)

    def test_example_of_the_document(self):
        log = [("pick-weigh", (), ()), ("weigh-merge", (), (0, 1))]
        term = ("pick", (("const", 1), ("const", 1)))
        self.assertEqual(replay(term, log), ("weigh", ((2, ("const", 1)),)))
        self.assertEqual(log, [("pick-weigh", (), ()), ("weigh-merge", (), (0, 1))])
        self.assertEqual(term, ("pick", (("const", 1), ("const", 1))))

    def test_empty_log(self):
        for term in made_terms(50):
            self.assertEqual(replay(term, []), term)

    def test_bad_steps(self):
        log = [("pick-weigh", (), ()), ("weigh-merge", (), (0, 1)), ("weigh-reduce", (), (2,)), ("weigh-one", (), ())]
        term = ("pick", (ONE, ONE))
        self.assertEqual(replay(term, log), ONE)
        for thing in NO_STEPS + [("pick-weigh", (0,), ()), ("weigh-merge", (), (1, 0)), ("grow-unfold", (), ()), ("weigh-swap", (3,), (0, 1))]:
            for number in range(5):
                self.check_bad(term, log[:number] + [thing] + log[number:], number)
                self.check_bad(term, log[:number] + [thing, thing], number)
        for number in range(2):
            # Without one of these steps, the next one does not apply.
            self.check_bad(term, log[:number] + log[number + 1:], number)
        self.check_bad(term, log + log, 4)
        self.check_bad(ONE, log, 0)

    def test_step_with_a_result_that_is_no_closed_term(self):
        deep = ("range", 5, 5)
        for _ in range(23):
            deep = ("map", ("sum",), deep)
        term = ("pick", (ONE, TWO))
        self.check_bad(deep, [("range-weigh", (0,) * 23, ())], 0)
        self.check_bad(("tuple", (term, ("map", ("flat",), ("const", ((1,) * 64, (2,)))))), [("pick-weigh", (0,), ()), ("map-inside", (1,), ())], 1)

    def test_invalid(self):
        for thing in NO_TERMS:
            for log in ([], [None], [("pick-weigh", (), ())], [("tuple-at", (), (1,))]):
                with self.assertRaises(Invalid) as caught:
                    replay(thing, log)
                self.assertEqual(caught.exception.name, "term")
        with self.assertRaises(Invalid):
            replay(("tuple", (X, LOST)), [("tuple-at", (), (1,))])

    def test_log_and_term_stay(self):
        for term in made_terms(100):
            try:
                found, log = normal(term)
            except TooLarge:
                continue
            before = (repr(term), repr(log))
            self.assertEqual(replay(term, log), found)
            self.assertEqual((repr(term), repr(log)), before)

    def test_step_by_step(self):
        maker = Maker(5)
        for term in made_terms(100):
            try:
                _, log = normal(term)
            except TooLarge:
                continue
            many = maker.below(len(log) + 1)
            now = term
            for step in log[:many]:
                inner = term_at(now, step[1])
                made = apply_rule(step[0], inner, step[2])
                now = stepped(now, step)
                self.assertEqual(term_at(now, step[1]), made)
            self.assertEqual(replay(term, log[:many]), now)
            self.assertEqual((spread(now).rows(), spread(now).lost), (spread(term).rows(), spread(term).lost))


if __name__ == "__main__":
    unittest.main()
