"""Exact fractions, also those that no call can reach by the rewards that may be handed in."""

import unittest
from fractions import Fraction
from math import ceil

from shapewatch.episodes import corrected_return, run_episode, total_returns
from shapewatch.linear import solved
from shapewatch.process import Process
from shapewatch.questions import equivalence_factor, least_regret_bound, optimal_values, potentials, regrets
from shapewatch.ratios import added, greatest_divisor, lowest_terms, lowest_terms_each, multiplied
from tests.helper import Account, listed, solve

HUGE = 3 ** 90


class LowestTerms(unittest.TestCase):
    def test_ordinary_fractions(self):
        for numerator, denominator, expected in (
            (1, 2, [1, 2]), (2, 4, [1, 2]), (6, 3, [2, 1]), (35, 21, [5, 3]), (7, 7, [1, 1]), (5, 1, [5, 1]),
        ):
            self.assertEqual(lowest_terms(numerator, denominator), expected)

    def test_zero_is_0_1(self):
        for denominator in (1, 2, 10, -3, HUGE):
            self.assertEqual(lowest_terms(0, denominator), [0, 1])

    def test_the_denominator_is_positive(self):
        self.assertEqual(lowest_terms(-6, 4), [-3, 2])
        self.assertEqual(lowest_terms(6, -4), [-3, 2])
        self.assertEqual(lowest_terms(-6, -4), [3, 2])
        self.assertEqual(lowest_terms(-3, -1), [3, 1])
        self.assertEqual(lowest_terms(3, -1), [-3, 1])
        self.assertEqual(lowest_terms(-5, 1), [-5, 1])

    def test_beyond_64_bits(self):
        self.assertEqual(lowest_terms(2 * HUGE, 6), [HUGE // 3, 1])
        self.assertEqual(lowest_terms(10 * HUGE, 4 * HUGE), [5, 2])
        self.assertEqual(lowest_terms(-HUGE, 2 ** 100), [-HUGE, 2 ** 100])
        self.assertEqual(lowest_terms(6 * HUGE + 6, 9 * HUGE), [2 * HUGE + 2, 3 * HUGE])

    def test_one_behind_another(self):
        self.assertEqual(lowest_terms_each([0, -4, 6, 9], 6), [0, 1, -2, 3, 1, 1, 3, 2])
        self.assertEqual(lowest_terms_each([], 6), [])

    def test_divisors(self):
        for first, second, expected in ((12, 18, 6), (18, 12, 6), (-12, 18, 6), (12, -18, 6), (0, 5, 5), (5, 0, 5), (1, 9, 1)):
            self.assertEqual(greatest_divisor(first, second), expected)


class Reckoning(unittest.TestCase):
    FRACTIONS = (
        [0, 1], [1, 1], [-1, 1], [1, 2], [-1, 2], [3, 4], [5, 6], [-5, 6], [7, 1], [HUGE, 2], [-HUGE, 2 ** 100], [2, HUGE],
    )

    def test_sums_and_products_in_lowest_terms(self):
        for first in self.FRACTIONS:
            for second in self.FRACTIONS:
                with self.subTest(first=first, second=second):
                    self.assertEqual(added(first, second), listed([Fraction(*first) + Fraction(*second)]))
                    self.assertEqual(multiplied(first, second), listed([Fraction(*first) * Fraction(*second)]))

    def test_what_is_handed_in_in_other_terms(self):
        self.assertEqual(added([2, 8], [2, 8]), [1, 2])
        self.assertEqual(multiplied([2, 8], [4, 2]), [1, 2])


class Solving(unittest.TestCase):
    SYSTEMS = (
        [[3, 7]],
        [[3, -1, 5], [-1, 4, 0]],
        [[10, 1, -2, 5], [-3, 9, 4, -7], [0, 0, 6, 1]],
        [[9, -2, -3, -1, 4], [0, 5, -4, 0, 0], [-1, -1, 7, -2, -8], [-9, 0, 0, 10, 1]],
        [[HUGE, -1, HUGE - 1], [2 - HUGE, HUGE, 17]],
    )

    def test_the_unknowns(self):
        for system in self.SYSTEMS:
            with self.subTest(system=system):
                solution = solved(system)
                self.assertGreater(solution.divisor, 0)
                self.assertEqual([Fraction(share, solution.divisor) for share in solution.shares], solve(system))

    def test_the_system_handed_in_stays(self):
        for system in self.SYSTEMS:
            copy = [list(row) for row in system]
            solved(system)
            self.assertEqual(system, copy)


class HugeRewards(unittest.TestCase):
    """Rewards up to 100000 keep the answers of these calls below 64 bits, so larger ones are put in here."""

    def test_optimal_values(self):
        tables = [[HUGE * k * k - 5 * k for k in range(8)], [7 - HUGE * k for k in range(8)]]
        weights = [[1, 6], [9, 4], [2, 5], [8, 3]]
        process = Process(2, 2, 7, 9)
        process.tables = tables
        process.weights = weights
        account = Account(2, 2, 7, 9, tables, weights)
        for table in (0, 1):
            found = optimal_values(process, [table])
            self.assertEqual(found, [2] + listed(account.optimal_values(table)))
            self.assertGreater(abs(found[1]), 2 ** 64)

    def test_regrets(self):
        tables = [[5 * k - HUGE * k * k for k in range(8)], [HUGE * k * k - 5 * k for k in range(8)]]
        weights = [[1, 6], [9, 4], [2, 5], [8, 3]]
        process = Process(2, 2, 7, 9)
        process.tables = tables
        process.weights = weights
        expected = Account(2, 2, 7, 9, tables, weights).regrets()
        self.assertEqual(regrets(process, []), [2] + listed(expected))
        self.assertEqual(least_regret_bound(process, []), [max(ceil(regret) for regret in expected)])
        self.assertGreater(min(expected), 2 ** 64)

    def test_returns(self):
        process = Process(2, 1, 1, 3)
        process.tables = [[HUGE] * 4, [-HUGE] * 4]
        episodes = []
        told = [2, 4 * HUGE // 3, 1, -4 * HUGE // 3, 1, 0, 0, 0, 0]
        self.assertEqual(run_episode(process, episodes, [0, 0, 5, 5]), told)
        self.assertEqual(run_episode(process, episodes, [0, 0, 5, 5]), told)
        self.assertEqual(total_returns(process, episodes, []), [2, 8 * HUGE // 3, 1, -8 * HUGE // 3, 1])
        self.assertEqual(corrected_return(process, episodes, [1]), [0, 4 * HUGE // 3, 1])

    def test_potentials(self):
        process = Process(2, 1, 1, 3)
        process.tables = [[0] * 4, [HUGE * 3 + 1] * 4]
        self.assertEqual(potentials(process, []), [2, -(9 * HUGE + 3) // 2, 1, -(9 * HUGE + 3) // 2, 1])
        process.tables = [[HUGE * 9] * 4, [0] * 4]
        self.assertEqual(potentials(process, []), [2, 27 * HUGE, 2, 27 * HUGE, 2])

    def test_the_equivalence_factor(self):
        process = Process(2, 1, 1, 2)
        process.tables = [[0, 2 * HUGE, 0, 0], [0, 2 ** 100, 0, 0]]
        self.assertEqual(equivalence_factor(process, []), [0, 2 ** 99, HUGE])
        process.tables = [[0, HUGE, 0, 0], [0, HUGE, 0, 1]]
        self.assertEqual(equivalence_factor(process, []), [-33])


if __name__ == "__main__":
    unittest.main()
