"""Many processes, compared with the plain account of the document's terms."""

import unittest

from tests.helper import Account, Numbers, ask, fractions_in, listed


def shaped(table, state_count, action_count, num, den, p):
    """The table shaped by den * p, by the words of the call."""
    places = [(s, q) for s in range(state_count) for _ in range(action_count) for q in range(state_count)]
    return [reward + num * p[q] - den * p[s] for reward, (s, q) in zip(table, places)]


class Case:
    """A process and the calls that make it: two tables that have much, little or nothing in common."""

    def __init__(self, seed):
        numbers = Numbers(seed)
        states, actions = numbers.between(2, 4), numbers.between(1, 3)
        den = numbers.between(2, 10)
        num = numbers.between(1, den - 1)
        self.sizes = (states, actions, num, den)
        spread = (1, 3, 50, 1000)[numbers.below(4)]
        count = states * actions * states
        first = numbers.several(count, -spread, spread)
        self.calls = [("create", *self.sizes), ("set_rewards", 0, first)]
        kind = numbers.below(4)
        if kind == 0:
            second = numbers.several(count, -spread, spread)
            self.calls.append(("set_rewards", 1, second))
        else:
            factor, p = numbers.between(1, 9), numbers.several(states, -20, 20)
            second = shaped([factor * reward for reward in first], *self.sizes, p)
            self.calls += [("copy_rewards", 1), ("scale_rewards", 1, factor), ("shape_rewards", 1, p)]
            if kind == 2:
                factor, p = numbers.between(1, 9), numbers.several(states, -20, 20)
                first = shaped([factor * reward for reward in first], *self.sizes, p)
                self.calls += [("scale_rewards", 0, factor), ("shape_rewards", 0, p)]
            if kind == 3:
                place = numbers.below(count)
                second[place] = numbers.between(-spread, spread)
                state, action, target = place // states // actions, place // states % actions, place % states
                self.calls.append(("set_reward", 1, state, action, target, [second[place]]))
        weights = []
        for pair in range(states * actions):
            row = numbers.several(states, 0, 9)
            row[numbers.below(states)] = numbers.between(1, 9)
            if numbers.below(3) == 0:
                row = [0] * states
                row[numbers.below(states)] = 9
            weights.append(row)
            self.calls.append(("set_transition", pair // actions, pair % actions, row))
        self.account = Account(*self.sizes, [first, second], weights)

    def ask(self, *questions):
        found = ask(*self.calls, *questions)[len(self.calls):]
        return found[0] if len(questions) == 1 else found


class AgainstTheAccount(unittest.TestCase):
    def each_case(self, count=120):
        for seed in range(count):
            with self.subTest(seed=seed):
                yield Case(seed)

    def test_optimal_values(self):
        for case in self.each_case(60):
            for table in (0, 1):
                expected = [case.sizes[0]] + listed(case.account.optimal_values(table))
                self.assertEqual(case.ask(("optimal_values", table)), expected)

    def test_same_optimal_actions(self):
        seen = []
        for case in self.each_case(60):
            same = case.account.optimal_actions(0) == case.account.optimal_actions(1)
            self.assertEqual(case.ask(("same_optimal_actions",)), [1 if same else 0])
            seen.append(same)
        self.assertIn(True, seen)
        self.assertIn(False, seen)

    def test_equivalence_and_potentials(self):
        seen = []
        for case in self.each_case():
            p = case.account.potentials(*case.account.rewards)
            expected = [[0], [-33]] if p is None else [[1], [case.sizes[0]] + listed(p)]
            self.assertEqual(case.ask(("are_equivalent",), ("potentials",)), expected)
            seen.append(p is None)
        self.assertIn(True, seen)
        self.assertIn(False, seen)

    def test_equivalence_factor(self):
        seen = []
        for case in self.each_case():
            factor = case.account.factor()
            expected = [-33] if factor is None else [0] + listed([factor])
            self.assertEqual(case.ask(("equivalence_factor",)), expected)
            seen.append(factor is None)
            seen.append(factor is not None and factor.denominator > 1)
        self.assertIn(True, seen[0::2])
        self.assertIn(False, seen[0::2])
        self.assertIn(True, seen[1::2])

    def test_fractions_are_in_lowest_terms(self):
        largest = 0
        for case in self.each_case():
            found = case.ask(("optimal_values", 0))[1:]
            self.assertEqual(listed(fractions_in(found)), found)
            self.assertTrue(all(denominator > 0 for denominator in found[1::2]))
            largest = max(largest, *found[1::2])
        self.assertGreater(largest, 10 ** 7)


if __name__ == "__main__":
    unittest.main()
