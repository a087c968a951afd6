"""The calls on episodes."""

import unittest
from fractions import Fraction

from tests.helper import BIGGEST, ask, everything, fractions_in, last, listed, settings

SMALL = (("create", 2, 2, 1, 2),)
# With two states and two actions, action 0 stays and action 1 goes to the other state.
MOVING = SMALL + (("set_deterministic", [0, 1, 1, 0]),)
# By table 0 staying is the best and by table 1 going.
APART = MOVING + (("set_rewards", 0, [4, 0, 0, 1, 0, 5, 2, 0]), ("set_rewards", 1, [-1, 0, 0, 6, 0, -2, 3, 0]))
KINDS = ("run_episode", "preview_episode")
TWELVE = APART + tuple(("run_episode", place % 2, place // 2 % 2, [7] * (place % 5)) for place in range(12))
OUT_OF_LIMITS = ([0] * 7, [1000], [BIGGEST], [1000, 0, 0], [0, 0, 1000], [0] * 5 + [1000], [1000] * 8)


class EpisodeCase(unittest.TestCase):
    def check(self, expected, *calls):
        """The answers to the last calls, as many as are expected."""
        self.assertEqual(ask(*calls)[-len(expected):], expected)

    def check_both(self, expected, setup, *arguments):
        """A run answers that, and so does a preview."""
        for kind in KINDS:
            with self.subTest(kind=kind, arguments=arguments):
                self.assertEqual(last(*setup, (kind, *arguments)), expected)


class Following(EpisodeCase):
    def test_the_optimal_policy_of_the_table_is_followed(self):
        # By table 0: 4 + 4/2 + 4/4; by table 1: -1 - 1/2 - 1/4.
        self.check_both([3, 7, 1, -7, 4, 0, 0, 0, 0, 0, 0], APART, 0, 0, [1, 2, 3])
        # By table 0: 1 + 2/2 + 1/4; by table 1: 6 + 3/2 + 6/4.
        self.check_both([3, 9, 4, 9, 1, 1, 1, 1, 0, 1, 1], APART, 1, 0, [1, 2, 3])

    def test_from_each_state(self):
        self.check_both([2, 15, 2, -3, 1, 0, 1, 0, 1], APART, 0, 1, [1, 2])
        self.check_both([2, 5, 2, 6, 1, 1, 0, 1, 1], APART, 1, 1, [1, 2])

    def test_the_smallest_of_several_optimal_actions(self):
        three = (("create", 2, 3, 1, 2),) + settings((0, 0, 1, 0, 5), (0, 0, 2, 0, 5), (1, 0, 2, 0, 7))
        self.check_both([1, 5, 1, 0, 1, 1, 0], three, 0, 0, [0])
        self.check_both([1, 5, 1, 7, 1, 2, 0], three, 1, 0, [0])
        self.check_both([1, 0, 1, 0, 1, 0, 1], three, 0, 1, [0])

    def test_no_random_numbers(self):
        for table in (0, 1):
            for state in (0, 1):
                self.check_both([0, 0, 1, 0, 1], APART, table, state, [])

    def test_six_random_numbers(self):
        one = (("create", 2, 1, 1, 2), ("set_rewards", 0, [1] * 4), ("set_rewards", 1, [-64] * 4))
        self.check_both([6, 63, 32, -126, 1] + [0, 1] * 6, one, 0, 1, [0, 999, 1, 998, 500, 499])

    def test_lowest_terms(self):
        one = (("create", 2, 1, 2, 8), ("set_rewards", 0, [4] * 4), ("set_rewards", 1, [6, 6, 6, 6]))
        self.check_both([2, 5, 1, 15, 2, 0, 0, 0, 0], one, 0, 0, [0, 0])
        self.check_both([3, 21, 4, 63, 8, 0, 0, 0, 0, 0, 0], one, 1, 0, [0, 0, 0])

    def test_each_reward_is_discounted_by_its_step(self):
        # Round and round over four states.
        calls = (("create", 4, 1, 3, 10), ("set_deterministic", [1, 2, 3, 0]))
        calls += settings((0, 0, 0, 1, 1), (0, 1, 0, 2, 10), (0, 2, 0, 3, 100), (0, 3, 0, 0, 1000), (1, 3, 0, 0, -1))
        for state in range(4):
            rewards = [10 ** ((state + step) % 4) for step in range(6)]
            total = sum(Fraction(3, 10) ** step * reward for step, reward in enumerate(rewards))
            other = -sum(Fraction(3, 10) ** step for step, reward in enumerate(rewards) if reward == 1000)
            steps = [number for step in range(6) for number in (0, (state + step + 1) % 4)]
            self.check_both([6] + listed([total, other]) + steps, calls, 0, state, [5] * 6)

    def test_returns_that_come_to_zero(self):
        calls = MOVING + settings((0, 0, 1, 1, 3), (0, 1, 1, 0, -6), (0, 0, 0, 0, -9), (0, 1, 0, 1, -9))
        self.check_both([2, 0, 1, 0, 1, 1, 1, 1, 0], calls, 0, 0, [0, 0])


class Chances(EpisodeCase):
    def next_states(self, weights, randoms):
        """Where each of the random numbers leads to from state 0."""
        states = len(weights)
        calls = [("create", states, 1, 1, 2), ("set_transition", 0, 0, weights)]
        return [row[-1] for row in ask(*calls, *[("preview_episode", 0, 0, [r]) for r in randoms])[2:]]

    def test_random_numbers_at_the_edges_between_states(self):
        for weights, edges in (
            ([1, 3], [250]), ([3, 1], [750]), ([1, 1], [500]), ([9, 9], [500]), ([1, 9], [100]), ([9, 1], [900]),
            ([1, 1, 1], [334, 667]), ([2, 4, 1], [286, 858]), ([3, 2, 7], [250, 417]), ([9, 8, 9], [347, 654]),
            ([1, 2, 3, 4], [100, 300, 600]), ([9, 9, 9, 8], [258, 515, 772]), ([7, 7, 7, 7], [250, 500, 750]),
        ):
            with self.subTest(weights=weights):
                randoms = [0] + [number for edge in edges for number in (edge - 1, edge)] + [999]
                expected = [state for state in range(len(weights)) for _ in (0, 1)]
                self.assertEqual(self.next_states(weights, randoms), expected)

    def test_a_state_of_weight_0_is_never_next(self):
        for weights, chosen in (([0, 5], [1] * 5), ([5, 0], [0] * 5), ([0, 1, 0], [1] * 5), ([0, 0, 0, 9], [3] * 5),
                                ([1, 0, 1], [0, 0, 2, 2, 2]), ([0, 1, 0, 1], [1, 1, 3, 3, 3]), ([9, 0, 0], [0] * 5)):
            with self.subTest(weights=weights):
                self.assertEqual(self.next_states(weights, [0, 499, 500, 501, 999]), chosen)

    def test_the_weights_are_those_for_the_state_and_the_action(self):
        # Action 1 is the best in state 0 and action 0 in state 1.
        calls = SMALL + settings((0, 0, 1, 0, 9), (0, 0, 1, 1, 9), (0, 1, 0, 0, 9), (0, 1, 0, 1, 9))
        calls += (("set_transition", 0, 0, [1, 9]), ("set_transition", 0, 1, [3, 1]))
        calls += (("set_transition", 1, 0, [2, 3]), ("set_transition", 1, 1, [9, 1]))
        for randoms, steps in (([749], [1, 0]), ([750], [1, 1]), ([750, 399], [1, 1, 0, 0]), ([750, 400], [1, 1, 0, 1]),
                               ([999, 399, 749, 750], [1, 1, 0, 0, 1, 0, 1, 1])):
            self.assertEqual(last(*calls, ("run_episode", 0, 0, randoms))[5:], steps)

    def test_the_rewards_are_those_of_the_next_state(self):
        one = (("create", 2, 1, 1, 2), ("set_rewards", 0, [1, 10, 100, 1000]), ("set_rewards", 1, [2, 3, 5, 7]))
        one += (("set_transition", 0, 0, [1, 1]), ("set_transition", 1, 0, [1, 1]))
        # 1 + 10/2 + 100/4 + 10/8, and 2 + 3/2 + 5/4 + 3/8.
        self.check_both([4, 129, 4, 41, 8, 0, 0, 0, 1, 0, 0, 0, 1], one, 0, 0, [0, 999, 0, 999])
        self.check_both([1, 1000, 1, 7, 1, 0, 1], one, 1, 1, [500])


class Refusals(EpisodeCase):
    def test_a_table_or_a_state_that_does_not_exist(self):
        for table, state in ((2, 0), (BIGGEST, 0), (0, 2), (1, BIGGEST), (2, 2)):
            self.check_both([-2], APART, table, state, [5])
        self.check_both([0, 0, 1, 0, 1], (("create", 4, 1, 1, 2),), 1, 3, [])
        self.check_both([-2], (("create", 4, 1, 1, 2),), 1, 4, [])

    def test_random_numbers_out_of_limits(self):
        for randoms in OUT_OF_LIMITS:
            self.check_both([-22], APART, 0, 0, randoms)

    def test_the_limits_themselves(self):
        for randoms in ([], [0], [999], [0] * 6, [999] * 6):
            row = last(*APART, ("run_episode", 0, 0, randoms))
            self.assertEqual([row[0], len(row)], [len(randoms), 5 + 2 * len(randoms)])

    def test_what_does_not_exist_comes_ahead_of_the_random_numbers(self):
        for randoms in OUT_OF_LIMITS:
            for table, state in ((2, 0), (0, 2)):
                self.check_both([-2], APART, table, state, randoms)

    def test_a_thirteenth(self):
        self.check([[-28], [4, 2, 2, 0, 12]], *TWELVE, ("run_episode", 0, 0, [5]), ("status",))
        self.check([[0, 0, 1, 0, 1], [4, 2, 2, 0, 12]], *TWELVE[:-1], ("run_episode", 0, 0, []), ("status",))

    def test_it_comes_behind_all_other_errors(self):
        self.check([[-2], [-2], [-2], [-28]], *TWELVE, ("run_episode", 2, 0, []), ("run_episode", 0, 2, []),
                   ("run_episode", 2, 0, [1000]), ("run_episode", 1, 1, [0] * 6))
        for randoms in OUT_OF_LIMITS:
            self.check([[-22]], *TWELVE, ("run_episode", 0, 0, randoms))

    def test_a_preview_may_be_a_thirteenth(self):
        self.check([[1, 4, 1, -1, 1, 0, 0], [4, 2, 2, 0, 12]], *TWELVE, ("preview_episode", 0, 0, [5]), ("status",))
        self.check([[-2], [-22]], *TWELVE, ("preview_episode", 2, 0, [5]), ("preview_episode", 0, 0, [1000]))

    def test_a_refused_run_and_each_preview_leave_the_state_as_it_was(self):
        for setup in (APART, APART + TWELVE[-3:], TWELVE):
            before = everything(setup, 2, 2)
            for call in (("run_episode", 2, 0, []), ("run_episode", 0, 2, []), ("run_episode", 0, 0, [1000]),
                         ("run_episode", 0, 0, [0] * 7), ("preview_episode", 0, 0, [1, 2]), ("preview_episode", 1, 1, []),
                         ("preview_episode", 2, 0, []), ("preview_episode", 0, 0, [1000])):
                with self.subTest(setup=len(setup), call=call):
                    self.assertEqual(everything(setup + (call,), 2, 2), before)
        self.assertEqual(everything(TWELVE + (("run_episode", 0, 0, [1]),), 2, 2), everything(TWELVE, 2, 2))


class GetEpisode(EpisodeCase):
    def test_each_as_it_was_answered(self):
        ran = ask(*TWELVE)[-12:]
        self.check(ran, *TWELVE, *[("get_episode", place) for place in range(12)])
        self.assertGreater(len({tuple(row) for row in ran}), 8)

    def test_what_does_not_exist(self):
        self.check([[-2], [-2]], *APART, ("get_episode", 0), ("get_episode", BIGGEST))
        self.check([[-2], [-2], [-2]], *TWELVE[:-1], ("get_episode", 11), ("get_episode", 12), ("get_episode", BIGGEST))

    def test_refused_runs_and_previews_take_no_number(self):
        calls = APART + (("run_episode", 0, 0, [1000]), ("preview_episode", 0, 0, [1]), ("run_episode", 1, 0, [1]))
        self.check([[1, 1, 1, 6, 1, 1, 1], [-2]], *calls, ("get_episode", 0), ("get_episode", 1))


class TotalReturns(EpisodeCase):
    def test_without_episodes(self):
        self.check([[0, 0, 1, 0, 1]], *APART, ("total_returns",))

    def test_the_sums_of_both_returns(self):
        calls = APART + (("run_episode", 0, 0, [1, 2, 3]), ("run_episode", 1, 0, [1, 2, 3]), ("run_episode", 0, 1, [4]))
        # 7 + 9/4 + 5 and -7/4 + 9 - 2.
        self.check([[3, 57, 4, 21, 4]], *calls, ("total_returns",))
        self.check([[2, 37, 4, 29, 4]], *calls[:-1], ("total_returns",))
        self.check([[1, 7, 1, -7, 4]], *calls[:-2], ("total_returns",))

    def test_sums_that_come_to_whole_numbers_and_to_zero(self):
        one = (("create", 2, 1, 1, 3),) + settings((0, 0, 0, 0, 1), (0, 1, 0, 1, -1), (1, 0, 0, 0, 9))
        calls = one + (("run_episode", 0, 0, [0] * 3), ("run_episode", 0, 1, [0] * 3))
        self.check([[3, 13, 9, 13, 1] + [0, 0] * 3, [3, -13, 9, 0, 1] + [0, 1] * 3, [2, 0, 1, 13, 1]], *calls,
                   ("total_returns",))

    def test_twelve_of_different_lengths(self):
        rows = ask(*TWELVE, ("total_returns",))
        returns = [fractions_in(row[1:5]) for row in rows[-13:-1]]
        self.assertEqual(rows[-1], [12] + listed([sum(pair[table] for pair in returns) for table in (0, 1)]))

    def test_only_recorded_ones_count(self):
        calls = APART + (("run_episode", 0, 0, [1]), ("preview_episode", 0, 0, [1]), ("run_episode", 2, 0, [1]))
        self.check([[1, 4, 1, -1, 1]], *calls, ("total_returns",))
        self.check([[-28], last(*TWELVE, ("total_returns",))], *TWELVE, ("run_episode", 0, 0, [1]), ("total_returns",))


CHANGES = (
    ("set_reward", 0, 0, 0, 0, [-100]),
    ("set_reward", 1, 0, 1, 1, [-100]),
    ("set_rewards", 0, [9, 8, 7, 6, 5, 4, 3, 2]),
    ("set_rewards", 1, [0] * 8),
    ("copy_rewards", 0),
    ("copy_rewards", 1),
    ("shape_rewards", 0, [10, -20]),
    ("shape_rewards", 1, [-30, 40]),
    ("scale_rewards", 0, 5),
    ("scale_rewards", 1, 6),
    ("set_transition", 0, 0, [0, 1]),
    ("set_transition", 1, 1, [2, 3]),
    ("set_deterministic", [1, 0, 0, 1]),
)


class Recorded(EpisodeCase):
    def test_they_stay_as_they_were_recorded(self):
        reads = tuple(("get_episode", place) for place in range(12)) + (("total_returns",),)
        before = ask(*TWELVE, *reads)[-13:]
        for change in CHANGES:
            with self.subTest(change=change):
                self.check(before, *TWELVE, change, *reads)
        self.check(before, *TWELVE, *CHANGES, *reads)

    def test_a_new_run_is_by_what_is_there_now(self):
        calls = APART + (("run_episode", 0, 0, [1]), ("set_reward", 0, 0, 0, 0, [-100]), ("run_episode", 0, 0, [1]))
        self.check([[1, 1, 1, 6, 1, 1, 1], [2, 5, 1, 5, 1]], *calls, ("total_returns",))
        calls = APART + (("run_episode", 0, 1, [1]), ("set_transition", 1, 0, [1, 0]), ("run_episode", 0, 1, [1]))
        self.check([[1, 5, 1, -2, 1, 0, 1], [1], [1, 2, 1, 3, 1, 1, 0], [2, 7, 1, 1, 1]], *calls, ("total_returns",))

    def test_create_alone_removes_them(self):
        self.check([[8], [4, 2, 2, 0, 0], [-2], [0, 0, 1, 0, 1], [-2]], *TWELVE, *SMALL, ("status",), ("get_episode", 0),
                   ("total_returns",), ("corrected_return", 0))
        calls = TWELVE + CHANGES + (("add_guarantee", 2, 100000), ("remove_guarantee", 0), ("create", 2, 2, 2, 2))
        self.check([[4, 2, 2, 0, 12]], *calls, ("status",))

    def test_a_create_that_fails_keeps_them(self):
        calls = TWELVE + (("add_guarantee", 2, 1000),)
        before = everything(calls, 2, 2)
        for sizes in ((5, 2, 1, 2), (2, 0, 1, 2), (2, 2, 2, 2), (2, 2, 1, 11)):
            self.check([[-22]], *calls, ("create", *sizes))
            self.assertEqual(everything(calls + (("create", *sizes),), 2, 2), before)


class CorrectedReturn(EpisodeCase):
    # The potentials are 6 and -10, and going is the best in both states.
    EQUIVALENT = MOVING + (("set_rewards", 0, [0, 0, 0, 8, 0, 0, 4, 0]), ("copy_rewards", 1), ("shape_rewards", 1, [3, -5]))

    def test_it_is_the_return_by_table_0_if_the_tables_stay(self):
        calls = self.EQUIVALENT + (("run_episode", 0, 0, [1]), ("run_episode", 1, 1, [1, 2]))
        # By table 1: 8 - 5 - 6, and 4 + 3 + 10 - 3/2.
        self.check([[1, 8, 1, -3, 1, 1, 1], [2, 8, 1, 31, 2, 1, 0, 1, 1], [0, 8, 1], [0, 8, 1]], *calls,
                   ("corrected_return", 0), ("corrected_return", 1))

    def test_no_steps(self):
        for state in (0, 1):
            calls = self.EQUIVALENT + (("run_episode", 0, state, []),)
            self.check([[0, 0, 1]], *calls, ("corrected_return", 0))

    def test_the_potentials_are_those_of_the_current_tables(self):
        calls = self.EQUIVALENT + (("run_episode", 0, 0, [1]), ("run_episode", 1, 1, [1, 2]))
        # Without potentials the recorded return by table 1 stays as it is.
        self.check([[0, -3, 1], [0, 31, 2]], *calls, ("copy_rewards", 0), ("corrected_return", 0), ("corrected_return", 1))
        # The potentials are 26 and -10 now: -3 + 26 + 10/2, and 31/2 - 10 + 10/4.
        self.check([[0, 28, 1], [0, 8, 1]], *calls, ("shape_rewards", 1, [10, 0]), ("corrected_return", 0),
                   ("corrected_return", 1))
        # They are 6 and 0: -3 + 6 - 0, and 31/2 + 0 - 0.
        self.check([[0, 3, 1], [0, 31, 2]], *calls, ("shape_rewards", 0, [0, -5]), ("corrected_return", 0),
                   ("corrected_return", 1))

    def test_transitions_do_not_matter(self):
        calls = self.EQUIVALENT + (("run_episode", 0, 0, [1]), ("set_deterministic", [1, 1, 0, 0]))
        self.check([[0, 8, 1]], *calls, ("corrected_return", 0))

    def test_potentials_that_are_fractions(self):
        # Each potential is -3/2: 1 - 3/2 + 1/3 * 3/2, and so on with more steps.
        one = (("create", 2, 1, 1, 3), ("set_rewards", 1, [1] * 4))
        one += tuple(("run_episode", 0, 0, [1] * count) for count in (1, 2, 6))
        self.check([[0, 0, 1]] * 3, *one, *[("corrected_return", place) for place in range(3)])
        # Each is -3 now, and the recorded returns are 1, 4/3 and 364/243: 1 - 3 + 1/3 * 3, and so on.
        self.check([[0, -1, 1], [0, -4, 3], [0, -364, 243]], *one, ("scale_rewards", 1, 2),
                   *[("corrected_return", place) for place in range(3)])

    def test_what_does_not_exist(self):
        self.check([[-2], [-2]], *self.EQUIVALENT, ("corrected_return", 0), ("corrected_return", BIGGEST))
        calls = self.EQUIVALENT + (("run_episode", 0, 0, []),)
        self.check([[0, 0, 1], [-2], [-2]], *calls, ("corrected_return", 0), ("corrected_return", 1),
                   ("corrected_return", BIGGEST))

    def test_tables_that_are_not_equivalent_now(self):
        calls = self.EQUIVALENT + (("run_episode", 0, 0, [1]), ("set_reward", 1, 0, 0, 0, [99]))
        self.check([[-33], [0], [0, -3, 1]], *calls, ("corrected_return", 0), ("copy_rewards", 0), ("corrected_return", 0))

    def test_what_does_not_exist_comes_first(self):
        self.check([[-2], [-2]], *APART, ("corrected_return", 0), ("corrected_return", BIGGEST))
        self.check([[-33], [-2]], *TWELVE, ("corrected_return", 11), ("corrected_return", 12))

    def test_asking_changes_nothing(self):
        for setup in (TWELVE, self.EQUIVALENT + TWELVE[-3:]):
            before = everything(setup, 2, 2)
            for question in (("get_episode", 0), ("get_episode", 12), ("total_returns",), ("corrected_return", 0),
                             ("corrected_return", 12)):
                self.assertEqual(everything(setup + (question,), 2, 2), before)


if __name__ == "__main__":
    unittest.main()
