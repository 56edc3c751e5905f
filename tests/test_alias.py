"""Point 30 and chance/alias.py."""

import itertools
import random
import unittest

from chance.alias import build, choose, is_table, shares
from chance.errors import Invalid, Refused

HUGE = 10 ** 40

WEIGHTS = [
    [1], [7], [HUGE], [1, 1], [5, 5, 5], [HUGE] * 4, [0, 1], [1, 0], [0, 0, 3, 0], [0, 5, 0, 5], [1, 2], [2, 1], [1, 2, 3], [3, 2, 1], [1, 1, 98],
    [98, 1, 1], [1, 98, 1], [1, HUGE], [HUGE, 1], [HUGE, 0, 1, HUGE - 1], [1] * 64, list(range(65)), [2 ** k for k in range(130)], [7, 0, 0, 0, 0, 1],
    [10 ** 15, 1, 10 ** 15, 0, 3],
]


def told(columns, whole):
    """How many pairs of a column and a number give each index, counted one by one."""
    found = [0] * len(columns)
    for column in range(len(columns)):
        for number in range(whole):
            found[choose(columns, column, number)] += 1
    return found


class TestBuild(unittest.TestCase):
    def check(self, weights):
        with self.subTest(weights=weights):
            before = list(weights)
            columns = build(weights)
            self.assertEqual(weights, before)
            whole = sum(weights)
            self.assertIs(type(columns), list)
            self.assertEqual(len(columns), len(weights))
            found = [0] * len(weights)
            for column in columns:
                self.assertIs(type(column), tuple)
                self.assertEqual([type(number) for number in column], [int, int, int])
                limit, own, other = column
                self.assertTrue(0 <= limit <= whole)
                self.assertTrue(0 <= own < len(weights) and 0 <= other < len(weights))
                found[own] += limit
                found[other] += whole - limit
            self.assertEqual(found, [weight * len(weights) for weight in weights])
            self.assertEqual(shares(columns, whole), found)
            self.assertIs(is_table(columns, weights), True)
            if whole <= 200:
                self.assertEqual(told(columns, whole), found)

    def test_weights(self):
        for weights in WEIGHTS:
            self.check(weights)

    def test_all_small_weights(self):
        for many in (1, 2, 3, 4):
            for weights in itertools.product(range(5), repeat=many):
                if sum(weights) > 0:
                    self.check(list(weights))

    def test_many_weights(self):
        numbers = random.Random(3)
        for _ in range(200):
            self.check([numbers.choice([0, 1, numbers.randrange(100), numbers.randrange(HUGE)]) for _ in range(numbers.randrange(1, 40))] + [1])
        self.check([numbers.randrange(10 ** 9) for _ in range(5000)])

    def test_new_list(self):
        weights = [1, 2]
        columns = build(weights)
        columns.append(5)
        self.assertEqual(weights, [1, 2])
        self.assertEqual(len(build(weights)), 2)

    def test_invalid(self):
        for weights in ([], [0], [0, 0, 0], [-1], [1, -1], [2, -1], [-1, 2], [5, 5, -1, 5], [-HUGE, 1], [HUGE, -1], [0, -1, 1], [-3, -4]):
            with self.subTest(weights=weights):
                with self.assertRaises(Invalid) as caught:
                    build(weights)
                self.assertEqual(caught.exception.name, "weights")
                self.assertIsInstance(caught.exception, Refused)


class TestChoose(unittest.TestCase):
    def test_limits(self):
        columns = [(3, 0, 1), (0, 1, 0), (5, 2, 0), (5, 0, 2)]
        cases = [(0, 0, 0), (0, 2, 0), (0, 3, 1), (0, 4, 1), (1, 0, 0), (1, 4, 0), (2, 0, 2), (2, 4, 2), (3, 4, 0)]
        for column, number, index in cases:
            self.assertEqual(choose(columns, column, number), index)
        self.assertEqual(columns, [(3, 0, 1), (0, 1, 0), (5, 2, 0), (5, 0, 2)])

    def test_big_numbers(self):
        self.assertEqual(choose([(HUGE, 0, 0), (HUGE - 1, 1, 0)], 1, HUGE - 2), 1)
        self.assertEqual(choose([(HUGE, 0, 0), (HUGE - 1, 1, 0)], 1, HUGE - 1), 0)


class TestShares(unittest.TestCase):
    def test_shares(self):
        self.assertEqual(shares([(3, 0, 1), (2, 1, 0)], 5), [6, 4])
        self.assertEqual(shares([(0, 0, 1), (0, 0, 1)], 5), [0, 10])
        self.assertEqual(shares([(5, 1, 1), (5, 1, 1)], 5), [0, 10])
        self.assertEqual(shares([(2, 0, 0)], 7), [7])
        self.assertEqual(shares([(0, 2, 1), (1, 2, 2), (2, 0, 1)], 2), [2, 2, 2])
        self.assertEqual(shares([], 7), [])
        self.assertEqual(shares([(HUGE - 1, 0, 1), (HUGE, 1, 0)], HUGE), [HUGE - 1, HUGE + 1])

    def test_against_choose(self):
        for first, second in itertools.product(itertools.product(range(4), range(2), range(2)), repeat=2):
            columns = [first, second]
            self.assertEqual(shares(columns, 3), told(columns, 3))
            self.assertEqual(columns, [first, second])

    def test_new_list(self):
        columns = [(1, 0, 0)]
        self.assertIs(type(shares(columns, 1)), list)
        self.assertIsNot(shares(columns, 1), shares(columns, 1))


class TestIsTable(unittest.TestCase):
    def check(self, columns, weights, answer):
        with self.subTest(columns=columns, weights=weights):
            before = (list(columns), list(weights))
            self.assertIs(is_table(columns, weights), answer)
            self.assertEqual((columns, weights), before)

    def test_tables_that_build_would_not_make(self):
        self.check([(4, 0, 1), (2, 0, 1)], [3, 1], True)
        self.check([(4, 0, 1), (2, 1, 0)], [3, 1], True)
        self.check([(4, 0, 0), (2, 0, 1)], [3, 1], True)
        self.check([(2, 1, 0), (4, 0, 1)], [3, 1], True)
        self.check([(1, 1, 0), (3, 0, 1)], [3, 1], True)
        self.check([(0, 1, 0), (2, 1, 0)], [3, 1], True)
        self.check([(0, 1, 1), (2, 0, 0)], [1, 1], True)
        self.check([(2, 1, 0), (0, 1, 0)], [1, 1], True)
        self.check([(1, 1, 0), (1, 1, 0)], [1, 1], True)
        self.check([(3, 0, 0)], [5], True)
        self.check([(0, 0, 0)], [5], True)
        self.check([(5, 0, 0)], [5], True)
        self.check([(5, 1, 1), (5, 1, 0)], [0, 5], True)
        self.check([(0, 0, 1), (0, 0, 1)], [0, 5], True)

    def test_numbers_differ(self):
        self.check([], [1], False)
        self.check([(1, 0, 0)], [], False)
        self.check([(2, 0, 0)], [1, 1], False)
        self.check([(1, 0, 0), (1, 0, 0)], [1], False)
        self.check([(1, 0, 0), (1, 1, 1), (1, 0, 1)], [1, 0], False)

    def test_sum_0(self):
        self.check([], [], False)
        self.check([(0, 0, 0)], [0], False)
        self.check([(0, 0, 1), (0, 1, 0)], [0, 0], False)
        self.check([(0, 0, 1), (0, 1, 0)], [1, -1], False)
        self.check([(0, 0, 0)], [-1], False)

    def test_negative_weights(self):
        self.check([(1, 0, 0), (1, 0, 0)], [2, -1], False)
        self.check([(0, 0, 0)], [-5], False)
        self.check([(-5, 0, 0)], [-5], False)

    def test_limits(self):
        for columns in ([(-1, 0, 0), (4, 0, 1)], [(5, 0, 0), (2, 0, 1)], [(4, 0, 0), (-HUGE, 0, 0)], [(HUGE, 0, 0), (2, 0, 1)], [(4, 0, 0), (5, 0, 1)]):
            self.check(columns, [3, 1], False)
        # The shares are right, but the limits are not.
        self.check([(6, 0, 0), (2, 0, 1)], [3, 1], False)
        self.check([(-1, 0, 0), (2, 0, 1)], [3, 1], False)
        self.check([(6, 0, 1), (0, 0, 0)], [4, 0], False)
        self.check([(5, 0, 1), (3, 1, 0)], [3, 1], False)

    def test_indexes(self):
        for at in (-1, -2, 2, 3, HUGE, -HUGE):
            # Used, and not used.
            self.check([(4, at, 0), (2, 0, 1)], [3, 1], False)
            self.check([(0, 0, at), (2, 0, 1)], [3, 1], False)
            self.check([(4, 0, at), (2, 0, 1)], [3, 1], False)
            self.check([(0, at, 0), (2, 0, 1)], [3, 1], False)
            self.check([(4, 0, 0), (2, 0, at)], [3, 1], False)
        self.check([(1, 0, 1)], [1], False)
        self.check([(1, 0, -1)], [1], False)
        self.check([(0, 1, 0)], [1], False)

    def test_wrong_shares(self):
        self.check([(4, 0, 0), (3, 0, 1)], [3, 1], False)
        self.check([(4, 0, 0), (1, 0, 1)], [3, 1], False)
        self.check([(4, 0, 0), (4, 1, 1)], [3, 1], False)
        self.check([(4, 1, 1), (2, 1, 0)], [3, 1], False)
        self.check([(2, 0, 0), (2, 0, 0)], [2, 0], True)
        self.check([(1, 0, 1), (1, 0, 0)], [2, 0], False)

    def test_all_small_tables(self):
        columns = list(itertools.product(range(-1, 4), range(-1, 3), range(-1, 3)))
        many = 0
        for weights in ([1, 1], [2, 0], [0, 1], [1, 0], [2, -1]):
            whole = sum(weights)
            for first, second in itertools.product(columns, repeat=2):
                table = [first, second]
                fits = all(0 <= limit <= whole and 0 <= own < 2 and 0 <= other < 2 for limit, own, other in table)
                right = fits and told(table, whole) == [2 * weight for weight in weights]
                many += right
                self.assertIs(is_table(table, weights), right, (table, weights))
        self.assertGreater(many, 50)

    def test_changed_tables(self):
        for weights in WEIGHTS:
            columns = build(weights)
            self.check(columns + [(sum(weights), 0, 0)], weights, False)
            self.check(columns[1:], weights, False)
            self.check(columns, weights + [0], False)


if __name__ == "__main__":
    unittest.main()
