"""The calls that ask about the tables."""

import unittest

from tests.helper import BIGGEST, ask, everything, last, settings

SMALL = (("create", 2, 2, 1, 2),)
MIXED = [5, -7, 11, 13, -17, 19, 23, -29]
FILLED = SMALL + (("set_rewards", 0, MIXED), ("copy_rewards", 1))


class AreEquivalent(unittest.TestCase):
    def check(self, expected, *calls):
        self.assertEqual(last(*calls, ("are_equivalent",)), [expected])

    def test_the_same_tables(self):
        self.check(1, *SMALL)
        self.check(1, *FILLED)

    def test_a_shaped_table(self):
        self.check(1, *FILLED, ("shape_rewards", 1, [3, -1]))
        self.check(1, *FILLED, ("shape_rewards", 0, [3, -1]))
        self.check(1, *FILLED, ("shape_rewards", 0, [1000, 1000]), ("shape_rewards", 1, [-5, 8]))

    def test_potentials_that_are_no_whole_numbers(self):
        self.check(1, ("create", 2, 2, 1, 3), ("set_rewards", 1, [1] * 8))

    def test_any_single_reward_breaks_it(self):
        for state, action, target in ((s, a, q) for s in (0, 1) for a in (0, 1) for q in (0, 1)):
            for table in (0, 1):
                with self.subTest(table=table, state=state, action=action, target=target):
                    self.check(0, *FILLED, ("shape_rewards", 1, [3, -1]), ("set_reward", table, state, action, target, [99]))

    def test_a_multiple_is_not_enough(self):
        self.check(0, *FILLED, ("scale_rewards", 1, 2))

    def test_transitions_do_not_matter(self):
        for changes in ((("set_deterministic", [1, 1, 1, 1]),), (("set_transition", 0, 0, [0, 9]),)):
            self.check(1, *FILLED, ("shape_rewards", 1, [3, -1]), *changes)
            self.check(0, *FILLED, ("set_reward", 1, 0, 0, 0, [99]), *changes)

    def test_one_action_in_four_states(self):
        four = (("create", 4, 1, 9, 10), ("set_rewards", 0, list(range(16))), ("copy_rewards", 1))
        self.check(1, *four, ("shape_rewards", 0, [1, 2, 3, 4]))
        self.check(0, *four, ("shape_rewards", 0, [1, 2, 3, 4]), ("set_reward", 0, 3, 0, 2, [0]))


class Potentials(unittest.TestCase):
    def check(self, expected, *calls):
        self.assertEqual(last(*calls, ("potentials",)), expected)

    def test_the_same_tables(self):
        self.check([2, 0, 1, 0, 1], *SMALL)
        self.check([4, 0, 1, 0, 1, 0, 1, 0, 1], ("create", 4, 3, 9, 10))

    def test_they_turn_table_0_into_table_1(self):
        self.check([2, 6, 1, -2, 1], *FILLED, ("shape_rewards", 1, [3, -1]))
        self.check([2, -6, 1, 2, 1], *FILLED, ("shape_rewards", 0, [3, -1]))
        self.check([2, 2000, 1, -2000, 1], *FILLED, ("shape_rewards", 1, [1000, -1000]))

    def test_they_are_discount_den_times_those_shaped_by(self):
        self.check([3, 10, 1, 0, 1, -70, 1], ("create", 3, 1, 3, 10), ("shape_rewards", 1, [1, 0, -7]))

    def test_fractions_in_lowest_terms(self):
        # 1 more for every reward: each potential is -1 / (1 - g).
        for num, den, potential in ((1, 3, [-3, 2]), (1, 2, [-2, 1]), (3, 10, [-10, 7]), (2, 8, [-4, 3]), (9, 10, [-10, 1])):
            with self.subTest(num=num, den=den):
                self.check([2] + potential * 2, ("create", 2, 1, num, den), ("set_rewards", 1, [1] * 4))
        self.check([2, 3, 2, 3, 2], ("create", 2, 1, 1, 3), ("set_rewards", 0, [1] * 4))

    def test_the_largest(self):
        both = (("create", 2, 1, 9, 10), ("set_rewards", 0, [1000] * 4), ("scale_rewards", 0, 100))
        both += (("set_rewards", 1, [-1000] * 4), ("scale_rewards", 1, 100))
        self.check([2, 2000000, 1, 2000000, 1], *both)

    def test_tables_that_are_not_equivalent(self):
        self.check([-33], *FILLED, ("set_reward", 1, 0, 0, 0, [99]))
        self.check([-33], *FILLED, ("set_reward", 0, 1, 1, 1, [99]))
        self.check([-33], *FILLED, ("scale_rewards", 1, 2))

    def test_they_are_there_again_when_the_tables_are_equivalent_again(self):
        calls = FILLED + settings((1, 0, 1, 0, 99)) + (("potentials",),) + settings((1, 0, 1, 0, 11))
        self.assertEqual(ask(*calls, ("potentials",))[-3:], [[-33], [0, 99], [2, 0, 1, 0, 1]])


class EquivalenceFactor(unittest.TestCase):
    def check(self, expected, *calls):
        self.assertEqual(last(*calls, ("equivalence_factor",)), expected)

    def test_equivalent_tables(self):
        self.check([0, 1, 1], *FILLED)
        self.check([0, 1, 1], *FILLED, ("shape_rewards", 1, [3, -1]))

    def test_a_multiple(self):
        self.check([0, 3, 1], *FILLED, ("scale_rewards", 1, 3))
        self.check([0, 1, 3], *FILLED, ("scale_rewards", 0, 3))
        self.check([0, 2, 3], *FILLED, ("scale_rewards", 0, 9), ("scale_rewards", 1, 6))

    def test_a_multiple_shaped_before_and_behind(self):
        calls = FILLED + (("shape_rewards", 1, [3, -1]), ("scale_rewards", 1, 10), ("shape_rewards", 1, [0, 7]))
        calls += (("shape_rewards", 0, [-2, 5]), ("scale_rewards", 0, 4))
        self.check([0, 5, 2], *calls)

    def test_negative_rewards_and_a_positive_factor(self):
        self.check([0, 3, 2], *SMALL, *settings((0, 0, 0, 1, -2), (1, 0, 0, 1, -3)))

    def test_two_shaped_tables_of_zeros(self):
        self.check([0, 1, 1], *SMALL)
        self.check([0, 1, 1], *SMALL, ("shape_rewards", 1, [4, 5]))
        self.check([0, 1, 1], *SMALL, ("shape_rewards", 0, [4, 5]))
        self.check([0, 1, 1], *SMALL, ("shape_rewards", 0, [4, 5]), ("shape_rewards", 1, [8, 10]))
        self.check([0, 1, 1], *SMALL, ("set_rewards", 0, [7] * 8), ("set_rewards", 1, [-7] * 8))

    def test_one_shaped_table_of_zeros_alone(self):
        self.check([-33], *SMALL, ("set_rewards", 0, MIXED))
        self.check([-33], *SMALL, ("set_rewards", 1, MIXED))
        self.check([-33], *SMALL, ("set_rewards", 0, MIXED), ("shape_rewards", 1, [4, 5]))
        self.check([-33], *SMALL, ("set_rewards", 1, MIXED), ("shape_rewards", 0, [4, 5]))

    def test_a_negative_factor_is_none(self):
        self.check([-33], *SMALL, *settings((0, 0, 0, 1, 2), (1, 0, 0, 1, -2)))
        self.check([-33], *SMALL, ("set_rewards", 0, MIXED), ("set_rewards", 1, [-reward for reward in MIXED]))

    def test_any_single_reward_breaks_it(self):
        for state, action, target in ((s, a, q) for s in (0, 1) for a in (0, 1) for q in (0, 1)):
            for table in (0, 1):
                with self.subTest(table=table, state=state, action=action, target=target):
                    calls = FILLED + (("scale_rewards", 1, 3), ("set_reward", table, state, action, target, [97]))
                    self.check([-33], *calls)

    def test_rewards_that_fit_for_one_half_alone(self):
        self.check([-33], *SMALL, *settings((0, 0, 0, 1, 2), (1, 0, 0, 1, 4), (1, 1, 1, 0, 1)))
        self.check([-33], *SMALL, *settings((0, 0, 0, 1, 2), (1, 0, 0, 1, 4), (0, 1, 1, 0, 1)))
        self.check([-33], *SMALL, *settings((0, 0, 0, 1, 2), (1, 1, 1, 0, 4)))

    def test_transitions_do_not_matter(self):
        self.check([0, 3, 1], *FILLED, ("scale_rewards", 1, 3), ("set_deterministic", [1, 0, 1, 1]))

    def test_the_largest_and_the_smallest(self):
        one = (("create", 2, 1, 1, 2),) + settings((0, 0, 0, 1, 1), (1, 0, 0, 1, 1000)) + (("scale_rewards", 1, 100),)
        self.check([0, 100000, 1], *one)
        other = (("create", 2, 1, 1, 2),) + settings((1, 0, 0, 1, 1), (0, 0, 0, 1, 1000)) + (("scale_rewards", 0, 100),)
        self.check([0, 1, 100000], *other)


class SameOptimalActions(unittest.TestCase):
    def check(self, expected, *calls):
        self.assertEqual(last(*calls, ("same_optimal_actions",)), [expected])

    def test_the_same_tables(self):
        self.check(1, *SMALL)
        self.check(1, *FILLED)

    def test_one_action_alone(self):
        self.check(1, ("create", 2, 1, 1, 2), ("set_rewards", 0, [1, 2, 3, 4]))

    def test_another_best_action_in_one_state(self):
        for state in (0, 1):
            better = (0, state, 1, state, 1)
            self.check(0, *SMALL, *settings(better))
            self.check(0, *SMALL, *settings((1,) + better[1:]))
            self.check(1, *SMALL, *settings(better, (1, state, 1, state, 500)))
            self.check(0, *SMALL, *settings(better, (1, state, 0, state, 1)))
            self.check(0, *SMALL, *settings(better, (1, 1 - state, 1, 1 - state, 1)))

    def test_all_optimal_actions_count_not_the_smallest_alone(self):
        # Action 0 is the first of two optimal ones by table 0, and the only one by table 1.
        self.check(0, *SMALL, *settings((1, 0, 0, 0, 1)))
        three = (("create", 2, 3, 1, 2),)
        self.check(0, *three, *settings((0, 0, 0, 0, 1), (0, 0, 1, 0, 1), (1, 0, 0, 0, 1), (1, 0, 2, 0, 1)))
        self.check(1, *three, *settings((0, 0, 0, 0, 1), (0, 0, 2, 0, 1), (1, 0, 0, 0, 9), (1, 0, 2, 0, 9)))

    def test_later_rewards_count(self):
        # Action 1 leads from state 0 to state 1, where 5 are paid for ever by table 0.
        later = SMALL + settings((0, 1, 0, 1, 5), (0, 1, 1, 1, 5))
        self.check(1, *later)
        self.check(0, *later, ("set_deterministic", [0, 1, 1, 1]))
        self.check(1, *later, ("set_deterministic", [0, 1, 1, 1]), *settings((1, 0, 1, 1, 1)))

    def test_a_tie_that_fractions_alone_find(self):
        # Waiting in state 0 is worth 3 / (1 - 1/3) = 9/2, and trying to leave it 4 + 1/3 * 1/3 * 9/2 = 9/2.
        tie = (("create", 2, 2, 1, 3), ("set_transition", 0, 1, [1, 2]))
        tie += settings((0, 0, 0, 0, 3), (0, 0, 1, 0, 4), (0, 0, 1, 1, 4), (1, 0, 0, 0, 3), (1, 0, 1, 0, 4))
        self.check(1, *tie, *settings((1, 0, 1, 1, 4)))
        self.check(0, *tie, *settings((1, 0, 1, 1, 3)))

    def test_rewards_of_weight_0_do_not_count(self):
        self.check(1, *SMALL, *settings((0, 0, 1, 1, 1000)))
        self.check(0, *SMALL, *settings((0, 0, 1, 1, 1000)), ("set_transition", 0, 1, [9, 1]))

    def test_equivalent_tables_agree_whatever_the_transitions(self):
        for next_states in ([0, 0, 0, 0], [0, 1, 1, 0], [1, 0, 0, 1], [1, 1, 0, 1]):
            shaped = FILLED + (("shape_rewards", 1, [9, -8]), ("scale_rewards", 1, 7))
            self.check(1, *shaped, ("set_deterministic", next_states))


class OptimalValues(unittest.TestCase):
    def check(self, expected, table, *calls):
        self.assertEqual(last(*calls, ("optimal_values", table)), expected)

    def test_zeros(self):
        self.check([2, 0, 1, 0, 1], 0, *SMALL)
        self.check([4, 0, 1, 0, 1, 0, 1, 0, 1], 1, ("create", 4, 3, 9, 10))

    def test_a_reward_for_ever(self):
        for num, den, value in ((1, 2, [2, 1]), (1, 3, [3, 2]), (9, 10, [10, 1]), (2, 7, [7, 5]), (2, 8, [4, 3])):
            with self.subTest(num=num, den=den):
                one = (("create", 2, 1, num, den), ("set_reward", 0, 1, 0, 1, [1]))
                self.check([2, 0, 1] + value, 0, *one)
                minus = (("create", 2, 1, num, den), ("set_reward", 0, 1, 0, 1, [-1]))
                self.check([2, 0, 1, -value[0], value[1]], 0, *minus)

    def test_each_table_by_itself(self):
        both = SMALL + (("set_rewards", 0, [1] * 8), ("set_rewards", 1, [-3] * 8))
        self.check([2, 2, 1, 2, 1], 0, *both)
        self.check([2, -6, 1, -6, 1], 1, *both)

    def test_the_largest_and_the_smallest(self):
        for sign in (1, -1):
            calls = (("create", 2, 3, 9, 10), ("set_rewards", 1, [1000 * sign] * 12), ("scale_rewards", 1, 100))
            self.check([2, 1000000 * sign, 1, 1000000 * sign, 1], 1, *calls)

    def test_a_worse_first_step_for_more_later(self):
        calls = SMALL + (("set_deterministic", [0, 1, 1, 0]),) + settings((0, 0, 0, 0, 1), (0, 1, 0, 1, 5))
        self.check([2, 5, 1, 10, 1], 0, *calls)
        self.check([2, 2, 1, 2, 1], 0, *calls[:-1], *settings((0, 1, 0, 1, 1)))

    def test_the_least_bad_way(self):
        calls = SMALL + (("set_deterministic", [0, 1, 1, 0]), ("set_rewards", 0, [-4, 0, 0, -5, 0, -9, -1, 0]))
        # To and fro: v0 = -5 + v1 / 2 and v1 = -1 + v0 / 2.
        self.check([2, -22, 3, -14, 3], 0, *calls)

    def test_chances(self):
        calls = (("create", 2, 1, 1, 2), ("set_transition", 0, 0, [1, 3]), ("set_transition", 1, 0, [2, 3]))
        calls += (("set_rewards", 0, [8, 0, 0, 5]),)
        # v0 = 2 + v0 / 8 + 3 v1 / 8 and v1 = 3 + v0 / 5 + 3 v1 / 10.
        self.check([2, 202, 43, 242, 43], 0, *calls)

    def test_rewards_of_weight_0_do_not_count(self):
        self.check([2, 0, 1, 0, 1], 0, *SMALL, ("set_rewards", 0, [0, 1000, 0, 1000, 1000, 0, 1000, 0]))

    def test_shaping_takes_the_potential_from_the_value(self):
        calls = SMALL + (("set_deterministic", [0, 1, 1, 0]),) + settings((1, 0, 0, 0, 1), (1, 1, 0, 1, 5))
        self.check([2, -1, 1, 24, 1], 1, *calls, ("shape_rewards", 1, [3, -7]))

    def test_three_actions_in_four_states(self):
        rewards = [0] * 48
        rewards[(0 * 3 + 2) * 4 + 1] = 1
        rewards[(1 * 3 + 1) * 4 + 2] = 2
        rewards[(2 * 3 + 2) * 4 + 3] = 4
        rewards[(3 * 3 + 0) * 4 + 0] = 8
        calls = (("create", 4, 3, 1, 2), ("set_rewards", 0, rewards))
        calls += (("set_deterministic", [0, 0, 1, 1, 2, 1, 2, 2, 3, 0, 3, 3]),)
        # Round and round: 1 + 2/2 + 4/4 + 8/8 = 4 for each round, and a round is worth 16/15 of its first one.
        self.check([4, 64, 15, 98, 15, 136, 15, 152, 15], 0, *calls)

    def test_no_such_table(self):
        self.check([-2], 2, *SMALL)
        self.check([-2], BIGGEST, *SMALL)


class Asking(unittest.TestCase):
    def test_asking_changes_nothing(self):
        questions = (("are_equivalent",), ("potentials",), ("equivalence_factor",), ("same_optimal_actions",))
        questions += (("optimal_values", 0), ("optimal_values", 1))
        for setup in (FILLED, FILLED + (("scale_rewards", 1, 3), ("set_transition", 1, 0, [2, 3]))):
            before = everything(setup, 2, 2)
            for question in questions:
                with self.subTest(question=question):
                    self.assertEqual(everything(setup + (question,), 2, 2), before)
            self.assertEqual(ask(*setup, *questions)[len(setup):], ask(*setup, *questions, *questions)[-6:])


if __name__ == "__main__":
    unittest.main()
