"""The calls that change rewards and transitions."""

import unittest

from tests.helper import BIGGEST, ask, everything, last, rewards_of

SMALL = (("create", 2, 2, 1, 2),)
FIRST = [10, 20, 30, 40, 50, 60, 70, 80]
SECOND = [-1, -2, -3, -4, -5, -6, -7, -8]
FILLED = SMALL + (("set_rewards", 0, FIRST), ("set_rewards", 1, SECOND))
LOWEST, HIGHEST = -2147483648, 2147483647


def behind(*calls):
    """Both tables of the small monitor behind the calls."""
    return [rewards_of(table, 2, 2, calls) for table in range(2)]


class ChangeCase(unittest.TestCase):
    def check_all(self, setup, expected):
        """Each call is answered, behind the setup, as it is told."""
        for call, answer in expected:
            with self.subTest(call=call):
                self.assertEqual(last(*setup, call), answer)


class SetReward(ChangeCase):
    def test_the_previous_value(self):
        calls = SMALL + tuple(("set_reward", 1, 1, 0, 1, [value]) for value in (7, -1000, 1000, 0, 5))
        self.assertEqual(ask(*calls)[1:], [[0, 0], [0, 7], [0, -1000], [0, 1000], [0, 0]])

    def test_one_reward_alone_changes(self):
        for place, (state, action, target) in enumerate((s, a, q) for s in (0, 1) for a in (0, 1) for q in (0, 1)):
            for table in (0, 1):
                with self.subTest(table=table, place=place):
                    expected = [list(FIRST), list(SECOND)]
                    expected[table][place] = 999
                    self.assertEqual(behind(*FILLED, ("set_reward", table, state, action, target, [999])), expected)

    def test_order_by_state_then_action_then_next_state(self):
        rewards = list(range(1, 25)) + list(range(-24, 0))
        calls = (("create", 4, 3, 1, 2), ("set_rewards", 1, rewards))
        self.assertEqual(rewards_of(1, 4, 3, calls), rewards)
        self.assertEqual(rewards_of(0, 4, 3, calls), [0] * 48)

    def test_what_does_not_exist(self):
        self.check_all(FILLED, [
            (("set_reward", 2, 0, 0, 0, [1]), [-2]),
            (("set_reward", BIGGEST, 0, 0, 0, [1]), [-2]),
            (("set_reward", 0, 2, 0, 0, [1]), [-2]),
            (("set_reward", 0, BIGGEST, 0, 0, [1]), [-2]),
            (("set_reward", 0, 0, 2, 0, [1]), [-2]),
            (("set_reward", 0, 0, BIGGEST, 0, [1]), [-2]),
            (("set_reward", 0, 0, 0, 2, [1]), [-2]),
            (("set_reward", 0, 0, 0, BIGGEST, [1]), [-2]),
        ])

    def test_the_last_state_and_action_that_exist(self):
        self.check_all((("create", 4, 3, 1, 2),), [
            (("set_reward", 1, 3, 2, 3, [1]), [0, 0]),
            (("set_reward", 1, 4, 2, 3, [1]), [-2]),
            (("set_reward", 1, 3, 3, 3, [1]), [-2]),
            (("set_reward", 1, 3, 2, 4, [1]), [-2]),
        ])
        self.check_all((("create", 4, 1, 1, 2),), [
            (("set_reward", 1, 3, 0, 3, [1]), [0, 0]),
            (("set_reward", 1, 0, 1, 0, [1]), [-2]),
        ])

    def test_value_out_of_limits(self):
        for value in ([], [1, 2], [1, 1, 1], [0, 0, 0, 0], [1001], [-1001], [HIGHEST], [LOWEST]):
            self.check_all(FILLED, [(("set_reward", 0, 0, 0, 0, value), [-22])])

    def test_what_does_not_exist_comes_ahead_of_the_value(self):
        for value in ([], [1, 2], [1001]):
            self.check_all(FILLED, [
                (("set_reward", 2, 0, 0, 0, value), [-2]),
                (("set_reward", 0, 2, 0, 0, value), [-2]),
                (("set_reward", 0, 0, 2, 0, value), [-2]),
                (("set_reward", 0, 0, 0, 2, value), [-2]),
            ])


class SetRewards(ChangeCase):
    def test_all_rewards_of_one_table(self):
        self.assertEqual(ask(*FILLED), [[8], [0], [0]])
        self.assertEqual(behind(*FILLED), [FIRST, SECOND])

    def test_the_limits_themselves(self):
        edges = [1000, -1000, 1000, -1000, 0, 0, -1000, 1000]
        self.assertEqual(last(*FILLED, ("set_rewards", 1, edges)), [0])
        self.assertEqual(behind(*FILLED, ("set_rewards", 1, edges)), [FIRST, edges])

    def test_how_many_there_are(self):
        for state_count, action_count in ((2, 1), (2, 2), (3, 3), (4, 3)):
            setup = (("create", state_count, action_count, 1, 2),)
            count = state_count * action_count * state_count
            self.check_all(setup, [
                (("set_rewards", 0, [1] * count), [0]),
                (("set_rewards", 0, [1] * (count - 1)), [-22]),
                (("set_rewards", 0, [1] * (count + 1)), [-22]),
                (("set_rewards", 0, []), [-22]),
                (("set_rewards", 0, [1] * 50), [-22]),
            ])

    def test_a_reward_out_of_limits(self):
        for value in (1001, -1001, HIGHEST, LOWEST):
            for place in (0, 3, 7):
                rewards = list(FIRST)
                rewards[place] = value
                self.check_all(FILLED, [(("set_rewards", 1, rewards), [-22])])

    def test_no_such_table_comes_first(self):
        for rewards in (FIRST, [], [1] * 9, [1001] * 8):
            self.check_all(FILLED, [(("set_rewards", 2, rewards), [-2]), (("set_rewards", BIGGEST, rewards), [-2])])


class CopyRewards(ChangeCase):
    def test_the_named_table_takes_the_rewards_of_the_other(self):
        self.assertEqual(last(*FILLED, ("copy_rewards", 0)), [0])
        self.assertEqual(behind(*FILLED, ("copy_rewards", 0)), [SECOND, SECOND])
        self.assertEqual(behind(*FILLED, ("copy_rewards", 1)), [FIRST, FIRST])

    def test_the_tables_are_apart_behind_it(self):
        for table in (0, 1):
            changed = behind(*FILLED, ("copy_rewards", 1), ("set_reward", table, 0, 0, 0, [999]))
            self.assertEqual(changed[table], [999] + FIRST[1:])
            self.assertEqual(changed[1 - table], FIRST)

    def test_rewards_beyond_1000_are_copied(self):
        calls = FILLED + (("scale_rewards", 0, 100), ("copy_rewards", 1))
        self.assertEqual(behind(*calls)[1], [100 * reward for reward in FIRST])

    def test_no_such_table(self):
        self.check_all(FILLED, [(("copy_rewards", 2), [-2]), (("copy_rewards", BIGGEST), [-2])])


class ShapeRewards(ChangeCase):
    def test_shaping_a_table_of_zeros(self):
        calls = (("create", 2, 2, 2, 3), ("shape_rewards", 1, [10, 1]))
        self.assertEqual(ask(*calls), [[8], [0]])
        # From 0 to 0: 2 * 10 - 3 * 10; from 0 to 1: 2 * 1 - 3 * 10; from 1 to 0: 2 * 10 - 3 * 1; from 1 to 1: 2 - 3.
        self.assertEqual(behind(*calls), [[0] * 8, [-10, -28, -10, -28, 17, -1, 17, -1]])

    def test_shaping_adds_to_what_is_there(self):
        calls = FILLED + (("shape_rewards", 0, [-3, 4]),)
        self.assertEqual(behind(*calls), [[13, 30, 33, 50, 39, 56, 59, 76], SECOND])

    def test_three_states(self):
        calls = (("create", 3, 1, 9, 10), ("shape_rewards", 0, [1, 0, -1]))
        self.assertEqual(rewards_of(0, 3, 1, calls), [-1, -10, -19, 9, 0, -9, 19, 10, 1])

    def test_potentials_at_their_limits(self):
        calls = (("create", 2, 1, 9, 10), ("shape_rewards", 0, [1000, -1000]))
        self.assertEqual(rewards_of(0, 2, 1, calls), [-1000, -19000, 19000, 1000])

    def test_potentials_out_of_limits(self):
        for potentials in ([], [1], [1, 2, 3], [1] * 6, [1001, 0], [0, 1001], [-1001, 0], [0, -1001],
                           [HIGHEST, 0], [0, LOWEST]):
            self.check_all(FILLED, [(("shape_rewards", 0, potentials), [-22])])
        self.check_all((("create", 4, 1, 1, 2),), [
            (("shape_rewards", 0, [1] * 4), [0]),
            (("shape_rewards", 0, [1] * 3), [-22]),
            (("shape_rewards", 0, [1] * 5), [-22]),
        ])

    def test_a_reward_of_100000_is_reached_and_not_passed(self):
        for sign in (1, -1):
            top = SMALL + (("set_reward", 1, 1, 1, 1, [1000 * sign]), ("scale_rewards", 1, 100))
            up, down = ("shape_rewards", 1, [0, -sign]), ("shape_rewards", 1, [0, sign])
            self.assertEqual(ask(*top, up, down, up, up)[3:], [[-75], [0], [0], [-75]])
            self.assertEqual(behind(*top, up, down, up, up)[1][7], 100000 * sign)
            self.assertEqual(behind(*top, down)[1][7], 99999 * sign)

    def test_every_reward_counts_for_that(self):
        for place in range(8):
            for sign in (1, -1):
                state, target = place // 4, place % 2
                rewards = [0] * 8
                rewards[place] = 1000 * sign
                setup = SMALL + (("set_rewards", 0, rewards), ("scale_rewards", 0, 100))
                potentials = [0, 0]
                potentials[state] = -sign
                self.assertEqual(last(*setup, ("shape_rewards", 0, potentials)), [-75])
                if target != state:
                    potentials = [0, 0]
                    potentials[target] = sign
                    self.assertEqual(last(*setup, ("shape_rewards", 0, potentials)), [-75])

    def test_the_order_of_its_errors(self):
        setup = SMALL + (("set_rewards", 0, [1000] * 8), ("scale_rewards", 0, 100))
        self.check_all(setup, [
            (("shape_rewards", 2, []), [-2]),
            (("shape_rewards", 2, [1001, 0]), [-2]),
            (("shape_rewards", BIGGEST, [0, 0]), [-2]),
            (("shape_rewards", 0, [-1001, 0]), [-22]),
            (("shape_rewards", 0, [-1, -1, -1]), [-22]),
            (("shape_rewards", 0, [-1, -1]), [-75]),
            (("shape_rewards", 0, [0, 0]), [0]),
            (("shape_rewards", 1, [-1, -1]), [0]),
        ])


class ScaleRewards(ChangeCase):
    def test_all_rewards_of_one_table(self):
        self.assertEqual(last(*FILLED, ("scale_rewards", 1, 3)), [0])
        self.assertEqual(behind(*FILLED, ("scale_rewards", 1, 3)), [FIRST, [3 * reward for reward in SECOND]])
        self.assertEqual(behind(*FILLED, ("scale_rewards", 0, 1)), [FIRST, SECOND])

    def test_factors_at_and_beyond_their_limits(self):
        self.check_all(FILLED, [
            (("scale_rewards", 0, 1), [0]),
            (("scale_rewards", 0, 100), [0]),
            (("scale_rewards", 0, 0), [-22]),
            (("scale_rewards", 0, 101), [-22]),
            (("scale_rewards", 0, BIGGEST), [-22]),
        ])

    def test_a_reward_of_100000_is_reached_and_not_passed(self):
        for sign in (1, -1):
            for place in (0, 7):
                rewards = [0] * 8
                rewards[place] = 1000 * sign
                top = SMALL + (("set_rewards", 1, rewards), ("scale_rewards", 1, 100))
                self.assertEqual(last(*top), [0])
                self.assertEqual(behind(*top)[1][place], 100000 * sign)
                self.check_all(top, [(("scale_rewards", 1, 1), [0]), (("scale_rewards", 1, 2), [-75])])
        nearly = SMALL + (("set_rewards", 1, [667] * 8), ("scale_rewards", 1, 75), ("scale_rewards", 1, 2))
        self.assertEqual(ask(*nearly)[1:], [[0], [0], [-75]])

    def test_the_order_of_its_errors(self):
        setup = SMALL + (("set_rewards", 0, [1000] * 8), ("scale_rewards", 0, 100))
        self.check_all(setup, [
            (("scale_rewards", 2, 0), [-2]),
            (("scale_rewards", BIGGEST, 101), [-2]),
            (("scale_rewards", 2, 2), [-2]),
            (("scale_rewards", 0, 101), [-22]),
            (("scale_rewards", 0, 2), [-75]),
            (("scale_rewards", 1, 2), [0]),
        ])

    def test_a_set_reward_tells_a_scaled_value(self):
        setup = SMALL + (("set_reward", 0, 0, 0, 0, [-1000]), ("scale_rewards", 0, 100))
        self.assertEqual(last(*setup, ("set_reward", 0, 0, 0, 0, [1])), [0, -100000])


class SetTransition(ChangeCase):
    def test_the_sum_of_the_weights(self):
        self.check_all(FILLED, [
            (("set_transition", 0, 0, [1, 3]), [4]),
            (("set_transition", 1, 1, [0, 9]), [9]),
            (("set_transition", 1, 0, [9, 0]), [9]),
            (("set_transition", 0, 1, [9, 9]), [18]),
            (("set_transition", 0, 1, [0, 1]), [1]),
        ])
        self.assertEqual(last(("create", 4, 3, 1, 2), ("set_transition", 3, 2, [9, 9, 9, 9])), [36])

    def test_the_chances_follow_the_weights(self):
        # v = 3/4 * 4 + 1/2 * 1/4 * v, as the other state is worth 0.
        setup = (("create", 2, 1, 1, 2), ("set_reward", 0, 0, 0, 1, [4]))
        for weights, values in (([1, 3], [24, 7]), ([2, 6], [24, 7]), ([3, 1], [8, 5]), ([0, 9], [4, 1]),
                                ([9, 0], [0, 1])):
            calls = setup + (("set_transition", 0, 0, weights), ("optimal_values", 0))
            self.assertEqual(last(*calls), [2] + values + [0, 1])

    def test_one_pair_of_state_and_action_alone_changes(self):
        rewards = [0, 1, 0, 10, 100, 0, 1000, 0]
        setup = SMALL + (("set_rewards", 0, rewards),)
        for state, action, value in ((0, 0, [1, 1, 0, 1]), (0, 1, [10, 1, 0, 1]), (1, 0, [0, 1, 100, 1]),
                                     (1, 1, [0, 1, 1000, 1])):
            weights = [1 if state == 1 else 0, 1 if state == 0 else 0]
            calls = setup + (("set_transition", state, action, weights), ("optimal_values", 0))
            self.assertEqual(last(*calls), [2] + value)

    def test_later_weights_replace_earlier_ones(self):
        setup = (("create", 2, 1, 1, 2), ("set_reward", 0, 0, 0, 1, [4]))
        setup += (("set_transition", 0, 0, [9, 1]), ("set_transition", 0, 0, [1, 3]))
        self.assertEqual(last(*setup, ("optimal_values", 0)), [2, 24, 7, 0, 1])

    def test_what_does_not_exist_comes_first(self):
        for weights in ([1, 1], [], [1], [1, 1, 1], [10, 0], [0, 0]):
            self.check_all(FILLED, [
                (("set_transition", 2, 0, weights), [-2]),
                (("set_transition", BIGGEST, 0, weights), [-2]),
                (("set_transition", 0, 2, weights), [-2]),
                (("set_transition", 0, BIGGEST, weights), [-2]),
            ])

    def test_weights_out_of_limits(self):
        for weights in ([], [1], [1, 1, 1], [1] * 6, [10, 0], [0, 10], [BIGGEST, 1], [0, 0]):
            self.check_all(FILLED, [(("set_transition", 0, 0, weights), [-22])])
        self.check_all((("create", 4, 1, 1, 2),), [
            (("set_transition", 3, 0, [0, 0, 0, 9]), [9]),
            (("set_transition", 3, 0, [0, 0, 0, 0]), [-22]),
            (("set_transition", 3, 0, [9, 9, 9]), [-22]),
            (("set_transition", 3, 0, [9, 9, 9, 9, 9]), [-22]),
            (("set_transition", 3, 0, [9, 9, 9, 10]), [-22]),
        ])


class SetDeterministic(ChangeCase):
    def test_next_states_by_state_then_action(self):
        rewards = [1, 2, 4, 8, 16, 32, 64, 128]
        setup = SMALL + (("set_rewards", 0, rewards),)
        # With the discount 1/2: to and fro between the states, or waiting in one.
        for next_states, values in (
            ([0, 0, 0, 0], [8, 1, 68, 1]),
            ([1, 1, 1, 1], [136, 1, 256, 1]),
            ([0, 1, 1, 0], [160, 3, 272, 3]),
            ([1, 0, 0, 1], [130, 1, 256, 1]),
        ):
            calls = setup + (("set_deterministic", next_states), ("optimal_values", 0))
            self.assertEqual(ask(*calls)[-2:], [[0], [2] + values])

    def test_it_replaces_all_weights(self):
        calls = SMALL + (("set_rewards", 0, FIRST),)
        mixed = tuple(("set_transition", state, action, [3, 4]) for state in (0, 1) for action in (0, 1))
        sure = (("set_deterministic", [1, 0, 0, 1]),)
        self.assertEqual(everything(calls + mixed + sure, 2, 2), everything(calls + sure, 2, 2))
        self.assertNotEqual(everything(calls + mixed, 2, 2), everything(calls + sure, 2, 2))

    def test_twelve_next_states(self):
        setup = (("create", 4, 3, 1, 2), ("set_rewards", 0, [1] * 47 + [9]))
        self.check_all(setup, [
            (("set_deterministic", [3] * 12), [0]),
            (("set_deterministic", [3] * 11), [-22]),
            (("set_deterministic", [3] * 13), [-22]),
            (("set_deterministic", [3] * 14), [-22]),
            (("set_deterministic", [3] * 11 + [4]), [-22]),
        ])
        calls = setup + (("set_deterministic", [1, 1, 1, 2, 2, 2, 0, 0, 3, 0, 0, 3]), ("optimal_values", 0))
        self.assertEqual(last(*calls), [4, 4, 1, 6, 1, 10, 1, 18, 1])

    def test_next_states_out_of_limits(self):
        for next_states in ([], [0], [0, 0, 0], [0] * 5, [0] * 14, [2, 0, 0, 0], [0, 0, 0, 2], [0, BIGGEST, 0, 0]):
            self.check_all(FILLED, [(("set_deterministic", next_states), [-22])])


FAILING_SETUP = (
    ("create", 2, 2, 1, 3),
    ("set_rewards", 0, [1, 2, -3, 4, 5, 6, 7, 1000]),
    ("scale_rewards", 0, 100),
    ("set_rewards", 1, [9, 8, 7, 6, -5, 4, 3, -1000]),
    ("scale_rewards", 1, 100),
    ("set_transition", 0, 0, [1, 3]),
    ("set_transition", 0, 1, [2, 5]),
    ("set_transition", 1, 0, [9, 0]),
    ("set_transition", 1, 1, [7, 8]),
)

FAILING = (
    (("set_reward", 2, 0, 0, 0, [5]), -2),
    (("set_reward", 0, 2, 0, 0, [5]), -2),
    (("set_reward", 0, 0, 2, 0, [5]), -2),
    (("set_reward", 1, 0, 0, 2, [5]), -2),
    (("set_reward", 0, 0, 0, 0, [5, 5]), -22),
    (("set_reward", 1, 0, 0, 0, [1001]), -22),
    (("set_rewards", 2, [5] * 8), -2),
    (("set_rewards", 0, [5] * 7), -22),
    (("set_rewards", 0, [5] * 9), -22),
    (("set_rewards", 1, [5] * 7 + [1001]), -22),
    (("copy_rewards", 2), -2),
    (("shape_rewards", 2, [1, 1]), -2),
    (("shape_rewards", 0, [1, 1, 1]), -22),
    (("shape_rewards", 1, [1, 1001]), -22),
    (("shape_rewards", 0, [0, -1]), -75),
    (("shape_rewards", 1, [0, 1]), -75),
    (("scale_rewards", 2, 2), -2),
    (("scale_rewards", 0, 0), -22),
    (("scale_rewards", 0, 101), -22),
    (("scale_rewards", 0, 2), -75),
    (("scale_rewards", 1, 2), -75),
    (("set_transition", 2, 0, [5, 6]), -2),
    (("set_transition", 0, 2, [5, 6]), -2),
    (("set_transition", 0, 0, [5, 6, 7]), -22),
    (("set_transition", 0, 0, [5, 10]), -22),
    (("set_transition", 0, 0, [0, 0]), -22),
    (("set_deterministic", [1, 1, 0]), -22),
    (("set_deterministic", [1, 1, 0, 2]), -22),
    (("set_deterministic", []), -22),
    (("create", 2, 2, 2, 2), -22),
    (("optimal_values", 2), -2),
    (("potentials",), -33),
    (("equivalence_factor",), -33),
)


class Failing(unittest.TestCase):
    def test_a_failed_call_leaves_the_state_as_it_was(self):
        before = everything(FAILING_SETUP, 2, 2)
        for call, code in FAILING:
            with self.subTest(call=call):
                self.assertEqual(last(*FAILING_SETUP, call), [code])
                self.assertEqual(everything(FAILING_SETUP + (call,), 2, 2), before)

    def test_what_is_compared_there_tells_changes(self):
        before = everything(FAILING_SETUP, 2, 2)
        for call in (
            ("set_reward", 1, 1, 0, 1, [5]),
            ("copy_rewards", 1),
            ("shape_rewards", 0, [0, 1]),
            ("set_transition", 0, 0, [1, 2]),
            ("set_transition", 1, 1, [8, 7]),
            ("set_deterministic", [0, 1, 1, 0]),
        ):
            with self.subTest(call=call):
                self.assertNotEqual(everything(FAILING_SETUP + (call,), 2, 2), before)


if __name__ == "__main__":
    unittest.main()
