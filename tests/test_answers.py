"""How calls are told and answered, what create does, and what holds for every call."""

import unittest

from shapewatch.monitor import answers
from tests.helper import BIGGEST, CALL_NUMBERS, ask, everything, last, told

GOOD_CALLS = (
    ("set_reward", 0, 0, 0, 0, [1]),
    ("set_rewards", 0, [1] * 8),
    ("copy_rewards", 0),
    ("shape_rewards", 0, [1, 2]),
    ("scale_rewards", 0, 2),
    ("set_transition", 0, 0, [1, 2]),
    ("set_deterministic", [0, 1, 1, 0]),
    ("are_equivalent",),
    ("potentials",),
    ("equivalence_factor",),
    ("same_optimal_actions",),
    ("optimal_values", 0),
    ("optimal_policy", 0),
    ("regrets",),
    ("add_guarantee", 0, 0),
    ("remove_guarantee", 0),
    ("get_guarantee", 0),
    ("check_guarantee", 0, 0),
    ("least_regret_bound",),
    ("run_episode", 0, 0, [1]),
    ("preview_episode", 0, 0, [1]),
    ("get_episode", 0),
    ("total_returns",),
    ("corrected_return", 0),
    ("status",),
)

BAD_CALLS = (
    ("set_reward", 2, 9, 9, 9, []),
    ("set_reward", 0, 0, 0, 0, [1001]),
    ("set_rewards", 2, []),
    ("set_rewards", 0, [1001]),
    ("copy_rewards", BIGGEST),
    ("shape_rewards", 2, []),
    ("shape_rewards", 0, [1001]),
    ("scale_rewards", 2, 0),
    ("scale_rewards", 0, 101),
    ("set_transition", 4, 3, []),
    ("set_transition", 0, 0, [0, 0]),
    ("set_deterministic", []),
    ("optimal_values", 2),
    ("optimal_policy", 2),
    ("add_guarantee", 3, BIGGEST),
    ("check_guarantee", 3, BIGGEST),
    ("run_episode", 2, 9, [1000] * 8),
    ("preview_episode", 2, 9, [1000] * 8),
)

BAD_SIZES = (
    (0, 2, 1, 2), (1, 2, 1, 2), (5, 2, 1, 2), (BIGGEST, 2, 1, 2),
    (2, 0, 1, 2), (2, 4, 1, 2), (2, BIGGEST, 1, 2),
    (2, 2, 0, 2), (2, 2, 0, 0), (2, 2, 2, 2), (2, 2, 3, 2), (2, 2, 1, 1), (2, 2, 10, 10),
    (2, 2, 1, 11), (2, 2, 10, 11), (2, 2, 1, BIGGEST), (2, 2, BIGGEST, BIGGEST), (2, 2, 1, 0),
    (0, 0, 0, 0),
)

BUSY = (
    ("create", 2, 2, 1, 3),
    ("set_rewards", 0, [1, -2, 3, 4, -5, 6, 7, 8]),
    ("set_rewards", 1, [9, 8, 7, 6, -5, 4, 3, -2]),
    ("set_transition", 0, 0, [1, 3]),
    ("set_transition", 0, 1, [2, 5]),
    ("set_transition", 1, 0, [9, 0]),
    ("set_transition", 1, 1, [7, 8]),
    ("run_episode", 0, 0, [5, 500, 995]),
    ("run_episode", 1, 1, []),
    ("add_guarantee", 2, 1000),
    ("add_guarantee", 2, 999),
)


class Form(unittest.TestCase):
    def test_each_answer_stands_behind_its_count(self):
        self.assertEqual(answers([0, 4, 2, 2, 1, 2, 0]), [1, 8])
        self.assertEqual(answers([8, 0, 0]), [1, -11])
        self.assertEqual(
            answers([8, 0, 0, 0, 4, 2, 1, 1, 3, 0, 1, 5, 0, 1, 0, 1, -7, 0, 12, 1, 0, 0, 12, 1, 2, 0]),
            [1, -11, 1, 4, 2, 0, 0, 5, 2, 0, 1, -21, 2, 1, -2],
        )

    def test_an_empty_list_is_told_by_the_count_alone(self):
        self.assertEqual(
            answers([0, 4, 2, 1, 1, 2, 0, 1, 4, 0, 0, 0, 0, 0, 2, 1, 0, 0, 4, 1, 0, 0, 6, 2, 0, 0, 0, 7, 0, 0, 8, 0, 0]),
            [1, 4, 1, -22, 1, -22, 1, -22, 1, -22, 1, -22, 1, 1],
        )

    def test_a_request_of_60_long_calls(self):
        calls = [("create", 4, 3, 9, 10)] + [("set_rewards", 0, [-2147483648] * 50)] * 58 + [("are_equivalent",)]
        self.assertEqual(ask(*calls), [[48]] + [[-22]] * 58 + [[1]])

    def test_sixty_episodes_of_six_steps(self):
        calls = [("create", 2, 1, 1, 2)] + [("preview_episode", 0, 1, [999] * 6)] * 59
        self.assertEqual(ask(*calls), [[4]] + [[6, 0, 1, 0, 1] + [0, 1] * 6] * 59)

    def test_answers_are_whole_numbers_and_never_true_or_false(self):
        calls = list(BUSY) + [("are_equivalent",), ("same_optimal_actions",), ("optimal_values", 0), ("copy_rewards", 0)]
        calls += [("are_equivalent",), ("same_optimal_actions",), ("potentials",), ("equivalence_factor",)]
        calls += [call for call in GOOD_CALLS if call[0] not in ("set_reward", "set_rewards")]
        calls += [("check_guarantee", kind, 0) for kind in range(3)]
        given = answers(told(calls))
        self.assertIs(type(given), list)
        self.assertEqual({type(number) for number in given}, {int})

    def test_what_is_handed_in_stays_and_answers_the_same_again(self):
        calls = list(BUSY) + [("copy_rewards", 1), ("shape_rewards", 1, [3, -4]), ("set_reward", 1, 0, 0, 0, [5])]
        calls += [("potentials",), ("set_deterministic", [1, 1, 0, 0]), ("scale_rewards", 0, 3), ("optimal_values", 0)]
        calls += GOOD_CALLS
        handed = told(calls)
        copy = list(handed)
        first = answers(handed)
        self.assertEqual(handed, copy)
        self.assertEqual(answers(handed), first)
        self.assertEqual(handed, copy)

    def test_nothing_is_kept_from_one_request_to_the_next(self):
        self.assertEqual(ask(*BUSY)[0], [8])
        self.assertEqual(ask(("are_equivalent",)), [[-11]])
        fresh = ask(("create", 2, 2, 1, 3), ("optimal_values", 0), ("status",), ("total_returns",))
        self.assertEqual(fresh, [[8], [2, 0, 1, 0, 1], [4, 2, 2, 0, 0], [0, 0, 1, 0, 1]])


class NoMonitor(unittest.TestCase):
    def test_the_calls_tried_here_are_all_but_create(self):
        self.assertEqual({name for name, *_ in GOOD_CALLS}, set(CALL_NUMBERS) - {"create"})

    def test_every_call_but_create_is_refused(self):
        for call in GOOD_CALLS:
            with self.subTest(call=call):
                self.assertEqual(ask(call), [[-11]])

    def test_that_comes_ahead_of_all_other_refusals(self):
        for call in BAD_CALLS:
            with self.subTest(call=call):
                self.assertEqual(ask(call), [[-11]])

    def test_so_it_is_behind_a_create_that_fails(self):
        for call in GOOD_CALLS + BAD_CALLS:
            with self.subTest(call=call):
                self.assertEqual(ask(("create", 5, 2, 1, 2), call), [[-22], [-11]])


class Create(unittest.TestCase):
    def test_the_number_of_rewards(self):
        for state_count in (2, 3, 4):
            for action_count in (1, 2, 3):
                with self.subTest(state_count=state_count, action_count=action_count):
                    made = ask(("create", state_count, action_count, 1, 2))
                    self.assertEqual(made, [[state_count * action_count * state_count]])

    def test_discounts_at_their_limits(self):
        for discount in ((1, 2), (1, 10), (9, 10), (8, 9), (5, 10)):
            with self.subTest(discount=discount):
                self.assertEqual(ask(("create", 2, 1, *discount)), [[4]])

    def test_sizes_and_discounts_out_of_limits(self):
        for sizes in BAD_SIZES:
            with self.subTest(sizes=sizes):
                self.assertEqual(ask(("create", *sizes)), [[-22]])

    def test_all_rewards_are_0(self):
        seen = everything((("create", 2, 2, 1, 2),), 2, 2)
        self.assertEqual(seen[1:3], [[0] * 8, [0] * 8])

    def test_every_action_leads_back(self):
        calls = [("create", 3, 2, 1, 2)]
        rewards = [1, 90, 90, 2, 90, 90, 90, 4, 90, 90, 3, 90, 90, 90, -6, 90, 90, -5]
        calls += [("set_rewards", 0, rewards), ("optimal_values", 0)]
        self.assertEqual(last(*calls), [3, 4, 1, 8, 1, -10, 1])

    def test_a_create_that_fails_keeps_the_monitor(self):
        before = everything(BUSY, 2, 2)
        for sizes in BAD_SIZES:
            with self.subTest(sizes=sizes):
                self.assertEqual(last(*BUSY, ("create", *sizes)), [-22])
                self.assertEqual(everything(BUSY + (("create", *sizes),), 2, 2), before)

    def test_a_create_that_succeeds_replaces_the_monitor(self):
        fresh = (("create", 2, 2, 3, 4),)
        self.assertEqual(everything(BUSY + fresh, 2, 2), everything(fresh, 2, 2))

    def test_without_guarantees_and_episodes(self):
        self.assertEqual(last(*BUSY, ("status",)), [4, 2, 2, 2, 2])
        again = (("create", 3, 1, 1, 2), ("status",), ("get_guarantee", 0), ("get_episode", 0))
        self.assertEqual(ask(*BUSY, *again)[-4:], [[9], [4, 3, 1, 0, 0], [-2], [-2]])

    def test_the_new_monitor_has_its_own_sizes(self):
        calls = BUSY + (("create", 3, 1, 1, 2), ("set_reward", 0, 2, 0, 2, [1]), ("set_reward", 0, 0, 1, 0, [1]))
        self.assertEqual(ask(*calls, ("optimal_values", 0))[-4:], [[9], [0, 0], [-2], [3, 0, 1, 0, 1, 2, 1]])


class Status(unittest.TestCase):
    def test_the_numbers_of_states_and_actions(self):
        for states in (2, 3, 4):
            for actions in (1, 2, 3):
                self.assertEqual(last(("create", states, actions, 1, 2), ("status",)), [4, states, actions, 0, 0])

    def test_the_number_of_guarantees(self):
        calls = [("create", 4, 1, 1, 2), ("status",)]
        for value in range(4):
            calls += [("add_guarantee", 2, value), ("status",)]
        for place in (2, 2, 1, 0, 0):
            calls += [("remove_guarantee", place), ("status",)]
        found = [row[3:] for row in ask(*calls)[1::2]]
        self.assertEqual(found, [[count, 0] for count in (0, 1, 2, 3, 3, 2, 2, 1, 0, 0)])

    def test_the_number_of_episodes(self):
        calls = [("create", 3, 2, 1, 2), ("status",)]
        for _ in range(13):
            calls += [("run_episode", 0, 0, [1]), ("status",)]
        calls += [("preview_episode", 0, 0, [1]), ("status",)]
        found = [row[3:] for row in ask(*calls)[1::2]]
        self.assertEqual(found, [[0, count] for count in (*range(13), 12, 12)])


if __name__ == "__main__":
    unittest.main()
