"""Point 16 and chance/ratios.py."""

import unittest
from fractions import Fraction
from math import gcd

from chance.ratios import ONE, ZERO, below, minus, over, plus, ratio, times, total

HUGE = 10 ** 40 + 1
SOME = [
    (0, 1), (1, 1), (-1, 1), (1, 2), (-1, 2), (2, 3), (-2, 3), (5, 6), (7, 4), (-9, 4),
    (3, 1), (-6, 1), (HUGE, 1), (-HUGE, 7), (1, HUGE), (HUGE - 1, HUGE),
]


def pair(fraction):
    return (fraction.numerator, fraction.denominator)


class TestRatio(unittest.TestCase):
    def test_examples_of_the_document(self):
        self.assertEqual((ratio(4, -6), plus((1, 2), (1, 3))), ((-2, 3), (5, 6)))

    def test_zero_and_one(self):
        self.assertEqual((ZERO, ONE), ((0, 1), (1, 1)))
        self.assertIs(type(ZERO), tuple)
        self.assertIs(type(ONE), tuple)

    def test_lowest_terms_and_positive_bottom(self):
        tops = list(range(-13, 14)) + [HUGE, -HUGE, 6 * HUGE, 2 ** 200, -(2 ** 200)]
        bottoms = [-HUGE, -12, -7, -2, -1, 1, 2, 3, 6, 12, 2 ** 100, 3 * HUGE]
        for top in tops:
            for bottom in bottoms:
                found = ratio(top, bottom)
                self.assertIs(type(found), tuple)
                self.assertEqual(found, pair(Fraction(top, bottom)))
                self.assertGreater(found[1], 0)
                self.assertEqual(gcd(found[0], found[1]), 1)

    def test_signs(self):
        self.assertEqual(ratio(3, 6), (1, 2))
        self.assertEqual(ratio(-3, 6), (-1, 2))
        self.assertEqual(ratio(3, -6), (-1, 2))
        self.assertEqual(ratio(-3, -6), (1, 2))

    def test_zero_is_zero_over_one(self):
        for bottom in (1, -1, 5, -5, HUGE, -HUGE):
            self.assertEqual(ratio(0, bottom), (0, 1))

    def test_integers_are_no_booleans(self):
        for found in (ratio(1, 1), ratio(0, 1), plus((1, 2), (1, 2)), total([]), ZERO, ONE):
            for number in found:
                self.assertIs(type(number), int)


class TestOperations(unittest.TestCase):
    def test_pairs_of_ratios(self):
        for one in SOME:
            for two in SOME:
                left, right = Fraction(*one), Fraction(*two)
                with self.subTest(one=one, two=two):
                    self.assertEqual(plus(one, two), pair(left + right))
                    self.assertEqual(minus(one, two), pair(left - right))
                    self.assertEqual(times(one, two), pair(left * right))
                    self.assertIs(below(one, two), left < right)
                    if two != ZERO:
                        self.assertEqual(over(one, two), pair(left / right))

    def test_results_are_tuples(self):
        for found in (plus(ONE, ONE), minus(ONE, ONE), times(ONE, ONE), over(ONE, ONE), total([ONE])):
            self.assertIs(type(found), tuple)

    def test_reduced_results(self):
        self.assertEqual(plus((1, 6), (1, 3)), (1, 2))
        self.assertEqual(minus((1, 2), (1, 6)), (1, 3))
        self.assertEqual(times((2, 3), (3, 4)), (1, 2))
        self.assertEqual(over((2, 3), (4, 3)), (1, 2))

    def test_zero_as_a_result(self):
        self.assertEqual(plus((1, 6), (-1, 6)), (0, 1))
        self.assertEqual(minus((5, 7), (5, 7)), (0, 1))
        self.assertEqual(times((0, 1), (-5, 7)), (0, 1))
        self.assertEqual(over((0, 1), (-5, 7)), (0, 1))

    def test_over_a_negative_ratio(self):
        self.assertEqual(over((1, 2), (-1, 3)), (-3, 2))
        self.assertEqual(over((-1, 2), (-1, 3)), (3, 2))

    def test_below(self):
        self.assertIs(below((1, 3), (1, 2)), True)
        self.assertIs(below((1, 2), (1, 3)), False)
        self.assertIs(below((1, 2), (1, 2)), False)
        self.assertIs(below((-1, 2), (-1, 3)), True)
        self.assertIs(below((-1, 3), (-1, 2)), False)
        self.assertIs(below((0, 1), (0, 1)), False)
        self.assertIs(below((HUGE - 1, HUGE), (1, 1)), True)


class TestTotal(unittest.TestCase):
    def test_of_the_empty_list(self):
        self.assertEqual(total([]), (0, 1))

    def test_of_one(self):
        for one in SOME:
            self.assertEqual(total([one]), one)

    def test_of_several(self):
        self.assertEqual(total([(1, 2), (1, 3), (1, 6)]), (1, 1))
        self.assertEqual(total([(1, 2), (-1, 2)]), (0, 1))
        self.assertEqual(total([(1, 6), (1, 6)]), (1, 3))
        self.assertEqual(total([(1, 2), (1, 4), (1, 4)]), (1, 1))
        for end in range(len(SOME) + 1):
            self.assertEqual(total(SOME[:end]), pair(sum([Fraction(*one) for one in SOME[:end]], Fraction(0))))

    def test_of_many_bottoms(self):
        many = [(1, number) for number in range(1, 1001)]
        self.assertEqual(total(many), pair(sum([Fraction(*one) for one in many])))

    def test_argument_is_not_modified(self):
        given = [(1, 2), (1, 3), (-1, 6)]
        total(given)
        self.assertEqual(given, [(1, 2), (1, 3), (-1, 6)])


if __name__ == "__main__":
    unittest.main()
