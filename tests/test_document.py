"""The document as a whole: its examples, and what its point 1 says of all functions."""

import copy
import doctest
import pathlib
import re
import unittest

from makers import COIN, DIE, EVEN, LOST, ONE, TWO, X, made_terms
from chance import alias, checks, errors, logs, measure, normal, ratios, rules, shrink, tapes, terms, texts, values

README = pathlib.Path(__file__).resolve().parent.parent / "README.md"

KEEP = ("keep", ("less", 2), 2, ("range", 0, 3))
NUMBERS = ("list", 0, 4, ("range", 0, 9))
BIG = ("not", ("less", 10))
LOG = [("pick-weigh", (), ()), ("weigh-merge", (), (0, 1))]
# Each function of the interface with arguments for a call that returns something.
CALLS = [
    (ratios.ratio, 4, -6), (ratios.plus, (1, 2), (1, 3)), (ratios.minus, (1, 2), (1, 3)), (ratios.times, (1, 2), (1, 3)), (ratios.over, (1, 2), (1, 3)),
    (ratios.below, (1, 3), (1, 2)), (ratios.total, [(1, 2), (1, 3)]), (values.is_value, (1, [2])), (values.compare, (1,), (2,)),
    (values.ascending, [(3,), 1, ()]), (values.place_of, 2, [1, 2, 3]), (values.sum_of, (1, (2,))), (values.size_of, (1, 2)),
    (values.apply, ("flat",), (1, (2,))), (checks.is_test, ["even"]), (checks.holds, EVEN, (1, 1)), (terms.is_term, ["const", [1]]), (terms.checked, DIE),
    (terms.parts_of, ("pick", (ONE, TWO))), (terms.uses, X, "x"), (terms.is_closed, X, ["x"]), (terms.substitute, X, "x", (1, 2)),
    (terms.unfolded, ("grow", 2, ONE, ("self",))), (tapes.run, NUMBERS, [3, 9, 2, 7]), (tapes.trimmed, [1, 0, 0]), (tapes.paths, COIN),
    (tapes.shorter, [1, 2], [1, 3]), (tapes.tape_of, ("list", 0, 2, DIE), (3, 1)), (measure.spread, KEEP), (measure.chance, KEEP, EVEN), (measure.conditional, KEEP, EVEN),
    (measure.mean, KEEP), (alias.build, [1, 2, 3]), (alias.choose, [(4, 0, 0), (2, 0, 1)], 1, 3), (alias.shares, [(4, 0, 0), (2, 0, 1)], 4),
    (alias.is_table, [(4, 0, 0), (2, 0, 1)], [3, 1]), (rules.apply_rule, "pick-weigh", ("pick", (ONE, TWO)), ()), (logs.is_step, ["pick-weigh", [], []]),
    (logs.term_at, ("pick", (ONE, TWO)), (1,)), (logs.stepped, ("pick", (ONE, TWO)), LOG[0]), (logs.stepped, ("pick", (ONE, TWO)), ["pick-weigh", [], []]),
    (logs.replay, ("pick", (ONE, ONE)), LOG), (normal.normal, ("pick", (TWO, LOST, ONE))), (normal.same_chances, KEEP, COIN), (shrink.candidates, [3, 0, 2]),
    (shrink.shrink, NUMBERS, BIG, [3, 9, 2, 7]), (shrink.paper, NUMBERS, [2, 3, 7]), (shrink.is_least, NUMBERS, BIG, [2, 3, 7], [([3, 7], (7, 0, 0))]),
    (texts.parse, "let x 1..6 $x"), (texts.parse_test, "both even rising"), (texts.show, NUMBERS), (texts.show_test, BIG),
]


def lists_in(thing):
    """All lists in a thing."""
    if not isinstance(thing, (list, tuple)):
        return []
    found = [thing] if isinstance(thing, list) else []
    for part in thing:
        found.extend(lists_in(part))
    return found


class TestExamples(unittest.TestCase):
    """The examples of the document, in its order."""

    def test_ratios_and_values(self):
        self.assertEqual((ratios.ratio(4, -6), ratios.plus((1, 2), (1, 3))), ((-2, 3), (5, 6)))
        self.assertEqual((values.compare((3,), (0, 0)), values.apply(("flat",), (1, (2, (3,)), ()))), (-1, (1, 2, (3,))))

    def test_terms(self):
        found = terms.substitute(("tuple", (("var", "x"), ("upto", "x"))), "x", 3)
        self.assertEqual(found, ("tuple", (("const", 3), ("range", 0, 3))))
        found = terms.unfolded(("grow", 2, ("const", 0), ("map", ("add", 1), ("self",))))
        self.assertEqual(found, ("map", ("add", 1), ("grow", 1, ("const", 0), ("map", ("add", 1), ("self",)))))

    def test_tapes(self):
        found = tapes.run(("tuple", (("range", 1, 6), ("pick", (("const", 0), ("discard",))))), [9, 2, 4])
        self.assertEqual(found, ((4, 0), [3, 0]))
        found = tapes.paths(("weigh", ((1, ("const", 7)), (2, ("discard",)))))
        self.assertEqual(found, [((0,), (3,), 7), ((1,), (3,), None), ((2,), (3,), None)])

    def test_measure(self):
        self.assertEqual(measure.spread(("keep", ("less", 2), 2, ("range", 0, 3))).rows(), [(0, (3, 8)), (1, (3, 8))])
        self.assertEqual(measure.mean(("list", 1, 2, ("range", 1, 3))), (3, 1))

    def test_logs(self):
        log = [("pick-weigh", (), ()), ("weigh-merge", (), (0, 1))]
        self.assertEqual(logs.replay(("pick", (("const", 1), ("const", 1))), log), ("weigh", ((2, ("const", 1)),)))

    def test_shrink(self):
        found = shrink.shrink(("list", 0, 4, ("range", 0, 9)), ("not", ("less", 10)), [3, 9, 2, 7])
        self.assertEqual(found, [2, 3, 7])

    def test_texts(self):
        found = texts.parse("let x 1..6 keep less 5 2 {$x, 0..$x}")
        self.assertEqual(found, ("let", "x", ("range", 1, 6), ("keep", ("less", 5), 2, ("tuple", (("var", "x"), ("upto", "x"))))))

    def test_readme(self):
        blocks = re.findall(r"```\n(>>> .*?)```", README.read_text(encoding="ascii"), re.DOTALL)
        self.assertGreater(len(blocks), 0)
        for block in blocks:
            examples = doctest.DocTestParser().get_doctest(block, {}, "README", "README.md", 0)
            self.assertEqual(doctest.DocTestRunner().run(examples).failed, 0)


class TestAllFunctions(unittest.TestCase):
    def test_arguments_stay(self):
        for call, *arguments in CALLS:
            before = copy.deepcopy(arguments)
            with self.subTest(call=call.__name__):
                call(*arguments)
                self.assertEqual(repr(arguments), repr(before))

    def test_results_share_no_list(self):
        for call, *arguments in CALLS:
            given = copy.deepcopy(arguments)
            found = call(*given)
            told = repr(found)
            with self.subTest(call=call.__name__):
                self.assertFalse({id(part) for part in lists_in(found)} & {id(part) for part in lists_in(given)})
                for part in lists_in(found):
                    part.append("changed")
                self.assertEqual(repr(given), repr(arguments))
                again = call(*given)
                if not isinstance(found, measure.Spread):
                    self.assertEqual(repr(again), told)
                for part in lists_in(given):
                    part.append("changed")
                if not isinstance(found, measure.Spread):
                    self.assertEqual(repr(again), told)

    def test_spread_shares_no_list(self):
        found = measure.spread(KEEP)
        rows = found.rows()
        rows.append("changed")
        self.assertEqual(found.rows(), rows[:-1])

    def test_answers_are_true_or_false(self):
        for call, *arguments in CALLS:
            if call.__name__.startswith(("is_", "uses", "holds", "below", "shorter", "same")):
                self.assertIn(call(*arguments), (True, False))
                self.assertIs(type(call(*arguments)), bool)

    def test_pairs_and_triples_are_tuples(self):
        rows = [
            ratios.ratio(1, 2), ratios.ZERO, ratios.ONE, measure.mean(DIE), measure.chance(DIE, EVEN), measure.spread(DIE).lost, tapes.run(DIE, []),
            normal.normal(DIE), *measure.spread(DIE).rows(), *tapes.paths(DIE), *alias.build([1, 2]), *normal.normal(DIE)[1], *shrink.paper(DIE, [5]),
        ]
        for row in rows:
            self.assertIs(type(row), tuple)
            self.assertIn(len(row), (2, 3))

    def test_integers_are_never_true_or_false(self):
        def integers(thing):
            if isinstance(thing, (list, tuple)):
                return [number for part in thing for number in integers(part)]
            return [thing] if isinstance(thing, int) else []

        for call, *arguments in CALLS:
            found = call(*arguments)
            if isinstance(found, measure.Spread):
                found = (found.rows(), found.lost)
            if not isinstance(found, bool):
                self.assertNotIn(bool, {type(number) for number in integers(found)}, call.__name__)
        for thing in (True, False):
            self.assertIs(values.is_value(thing), False)
            self.assertIs(checks.is_test(("less", thing)), False)
            self.assertIs(terms.is_term(("const", thing)), False)
            self.assertIs(logs.is_step(("weigh-flat", (), (thing,))), False)

    def test_texts_are_ascii(self):
        for term in made_terms(100):
            self.assertTrue(texts.show(term).isascii())
        raised = [
            errors.Refused("it"), errors.Malformed(3), errors.Invalid("term"), errors.TooLarge("work"), errors.BadStep(2), errors.Impossible("tape"),
        ]
        for error in raised:
            self.assertTrue(str(error).isascii())


class TestTogether(unittest.TestCase):
    """The parts of the program, one with another."""

    def test_normal_forms_are_terms_of_the_program(self):
        for term in made_terms(200):
            try:
                form, log = normal.normal(term)
            except errors.TooLarge:
                continue
            self.assertEqual(texts.parse(texts.show(form)), form)
            self.assertEqual(normal.normal(form), (form, []))
            self.assertEqual(logs.replay(texts.parse(texts.show(term)), log), form)
            found = measure.spread(term)
            self.assertEqual((found.rows(), found.lost), (measure.spread(form).rows(), measure.spread(form).lost))

    def test_each_value_with_a_chance_has_a_tape(self):
        for term in made_terms(200):
            try:
                rows = measure.spread(term).rows()
                tapes.paths(term)
            except errors.TooLarge:
                continue
            for value, _ in rows[:5]:
                numbers = tapes.tape_of(term, value)
                self.assertEqual(tapes.run(term, numbers)[0], value)
                if values.is_value(value):
                    least = shrink.shrink(term, ("equals", value), numbers)
                    self.assertEqual(tapes.run(term, least)[0], value)
                    self.assertIs(shrink.is_least(term, ("equals", value), least, shrink.paper(term, least)), True)

    def test_a_table_for_a_weigh(self):
        for weights in ([3, 1, 4], [1], [2, 2, 2, 10]):
            term = ("weigh", tuple([(weight, ("const", at)) for at, weight in enumerate(weights)]))
            columns = alias.build(weights)
            whole = sum(weights)
            drawn = ("let", "x", ("range", 0, len(weights) - 1), ("tuple", (X, ("range", 0, whole - 1))))
            found = {}
            for value, share in measure.spread(drawn).rows():
                at = alias.choose(columns, *value)
                found[at] = ratios.plus(found.get(at, ratios.ZERO), share)
            self.assertEqual(sorted(found.items()), measure.spread(term).rows())


if __name__ == "__main__":
    unittest.main()
