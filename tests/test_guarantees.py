"""The calls on guarantees, and what the guarantees refuse."""

import unittest

from tests.helper import BIGGEST, ask, everything, last, settings

SMALL = (("create", 2, 2, 1, 2),)
# With two states and two actions, action 0 stays and action 1 goes to the other state.
MOVING = SMALL + (("set_deterministic", [0, 1, 1, 0]),)
# The regrets are 40/3 and 20/3.
REGRETTED = MOVING + settings((1, 0, 1, 1, 10))
UNEQUAL = SMALL + settings((1, 0, 1, 0, 5))
FULL = SMALL + (("add_guarantee", 0, 0), ("add_guarantee", 1, 0), ("add_guarantee", 2, 5))
OUT_OF_LIMITS = (
    (3, 0), (3, 5), (4, 0), (BIGGEST, 0), (0, 1), (1, 1), (0, 100000), (1, 100000), (0, 100001), (1, BIGGEST),
    (2, 100001), (2, BIGGEST), (3, 100001), (BIGGEST, BIGGEST),
)


class GuaranteeCase(unittest.TestCase):
    def check(self, expected, *calls):
        """The answers to the last calls, as many as are expected."""
        self.assertEqual(ask(*calls)[-len(expected):], expected)


class AddGuarantee(GuaranteeCase):
    def test_they_are_numbered_from_0(self):
        self.check([[8], [0], [1], [2]], *FULL)
        self.check([[0], [1], [2]], *SMALL, ("add_guarantee", 2, 7), ("add_guarantee", 2, 6), ("add_guarantee", 0, 0))

    def test_values_at_their_limits(self):
        self.check([[0], [1], [2]], *SMALL, ("add_guarantee", 2, 0), ("add_guarantee", 2, 1), ("add_guarantee", 2, 100000))

    def test_kinds_and_values_out_of_limits(self):
        for kind, value in OUT_OF_LIMITS:
            with self.subTest(kind=kind, value=value):
                self.check([[-22], [4, 2, 2, 0, 0]], *SMALL, ("add_guarantee", kind, value), ("status",))

    def test_the_same_one_twice(self):
        for kind, value in ((0, 0), (1, 0), (2, 0), (2, 100000)):
            calls = SMALL + (("add_guarantee", kind, value),)
            self.check([[-17], [4, 2, 2, 1, 0]], *calls, ("add_guarantee", kind, value), ("status",))

    def test_another_value_is_another_guarantee(self):
        self.check([[0], [1], [-17], [-17]], *SMALL, ("add_guarantee", 2, 3), ("add_guarantee", 2, 4),
                   ("add_guarantee", 2, 3), ("add_guarantee", 2, 4))

    def test_another_kind_is_another_guarantee(self):
        self.check([[0], [1], [2]], *SMALL, ("add_guarantee", 1, 0), ("add_guarantee", 2, 0), ("add_guarantee", 0, 0))

    def test_one_that_does_not_hold_now(self):
        self.check([[-30], [-30], [-30], [0]], *UNEQUAL, ("add_guarantee", 0, 0), ("add_guarantee", 1, 0),
                   ("add_guarantee", 2, 9), ("add_guarantee", 2, 10))
        self.check([[-30], [4, 2, 2, 0, 0]], *UNEQUAL, ("add_guarantee", 0, 0), ("status",))

    def test_a_bound_between_two_whole_numbers(self):
        self.check([[-30], [0]], *REGRETTED, ("add_guarantee", 2, 13), ("add_guarantee", 2, 14))

    def test_tables_with_the_same_actions_that_are_not_equivalent(self):
        same = SMALL + settings((0, 0, 1, 0, 4), (1, 0, 1, 0, 5))
        self.check([[-30], [0], [1]], *same, ("add_guarantee", 0, 0), ("add_guarantee", 1, 0), ("add_guarantee", 2, 0))

    def test_tables_without_regret_whose_actions_are_not_the_same(self):
        tied = SMALL + settings((1, 0, 0, 0, 5))
        self.check([[-30], [-30], [0]], *tied, ("add_guarantee", 0, 0), ("add_guarantee", 1, 0), ("add_guarantee", 2, 0))

    def test_a_fourth(self):
        self.check([[2], [-28], [4, 2, 2, 3, 0]], *FULL, ("add_guarantee", 2, 6), ("status",))
        self.check([[-28], [2], [2], [-28]], *FULL, ("add_guarantee", 2, 6), ("remove_guarantee", 1),
                   ("add_guarantee", 2, 6), ("add_guarantee", 1, 0))

    def test_the_order_of_its_errors(self):
        for kind, value in OUT_OF_LIMITS:
            self.check([[-22]], *FULL, ("add_guarantee", kind, value))
            self.check([[-22]], *UNEQUAL, ("add_guarantee", kind, value))
        for kind, value in ((0, 0), (1, 0), (2, 5)):
            self.check([[-17]], *FULL, ("add_guarantee", kind, value))
        # Three that hold, and one that doesn't.
        three = UNEQUAL + (("add_guarantee", 2, 10), ("add_guarantee", 2, 11), ("add_guarantee", 2, 12))
        self.check([[-22], [-30], [-30], [-30], [-17], [-28]], *three, ("add_guarantee", 0, 1), ("add_guarantee", 0, 0),
                   ("add_guarantee", 1, 0), ("add_guarantee", 2, 9), ("add_guarantee", 2, 11), ("add_guarantee", 2, 13))

    def test_a_failed_one_leaves_the_state_as_it_was(self):
        three = UNEQUAL + (("add_guarantee", 2, 10), ("add_guarantee", 2, 11), ("add_guarantee", 2, 12))
        before = everything(three, 2, 2)
        for kind, value in ((3, 0), (2, 11), (0, 0), (2, 9), (2, 13)):
            self.assertEqual(everything(three + (("add_guarantee", kind, value),), 2, 2), before)


class RemoveGuarantee(GuaranteeCase):
    def test_how_many_remain(self):
        self.check([[2], [1], [0], [-2]], *FULL, *[("remove_guarantee", 0)] * 4)
        self.check([[2], [-2], [1], [-2], [0]], *FULL, *[("remove_guarantee", place) for place in (2, 2, 1, 1, 0)])

    def test_the_later_ones_are_renumbered(self):
        reads = tuple(("get_guarantee", place) for place in range(3))
        self.check([[0, 0], [1, 0], [2, 5]], *FULL, *reads)
        self.check([[1, 0], [2, 5], [-2]], *FULL, ("remove_guarantee", 0), *reads)
        self.check([[0, 0], [2, 5], [-2]], *FULL, ("remove_guarantee", 1), *reads)
        self.check([[0, 0], [1, 0], [-2]], *FULL, ("remove_guarantee", 2), *reads)
        self.check([[2, 5], [-2], [-2]], *FULL, ("remove_guarantee", 0), ("remove_guarantee", 0), *reads)

    def test_a_new_one_comes_behind_those_that_remain(self):
        calls = FULL + (("remove_guarantee", 0), ("add_guarantee", 0, 0))
        reads = tuple(("get_guarantee", place) for place in range(4))
        self.check([[2], [2], [1, 0], [2, 5], [0, 0], [-2]], *calls, *reads)

    def test_what_does_not_exist(self):
        self.check([[-2], [-2]], *SMALL, ("remove_guarantee", 0), ("remove_guarantee", BIGGEST))
        self.check([[-2], [-2], [4, 2, 2, 3, 0]], *FULL, ("remove_guarantee", 3), ("remove_guarantee", BIGGEST), ("status",))

    def test_a_removed_one_refuses_no_more_and_the_others_still_do(self):
        unequal, regretted = ("set_reward", 1, 0, 0, 0, [1]), ("set_reward", 1, 0, 1, 0, [9])
        self.check([[-30], [-30]], *FULL, unequal, regretted)
        self.check([[-30], [-30]], *FULL, ("remove_guarantee", 0), unequal, regretted)
        self.check([[0, 0], [-30]], *FULL, ("remove_guarantee", 0), ("remove_guarantee", 0), unequal, regretted)
        self.check([[0, 0], [0, 0]], *FULL, *[("remove_guarantee", 0)] * 3, unequal, regretted)

    def test_nothing_else_changes(self):
        calls = REGRETTED + (("run_episode", 1, 0, [1, 2]), ("add_guarantee", 2, 14))
        self.assertEqual(everything(calls + (("remove_guarantee", 0),), 2, 2), everything(calls[:-1], 2, 2))
        self.assertEqual(everything(calls + (("remove_guarantee", 1),), 2, 2), everything(calls, 2, 2))


class GetGuarantee(GuaranteeCase):
    def test_kind_and_value(self):
        for kind, value in ((0, 0), (1, 0), (2, 0), (2, 1), (2, 100000)):
            self.check([[0], [kind, value]], *SMALL, ("add_guarantee", kind, value), ("get_guarantee", 0))

    def test_what_does_not_exist(self):
        self.check([[-2], [-2]], *SMALL, ("get_guarantee", 0), ("get_guarantee", BIGGEST))
        self.check([[2, 5], [-2], [-2]], *FULL, ("get_guarantee", 2), ("get_guarantee", 3), ("get_guarantee", BIGGEST))


class CheckGuarantee(GuaranteeCase):
    def checks(self, expected, *calls):
        questions = [("check_guarantee", kind, value) for kind, value in ((0, 0), (1, 0), (2, 0))]
        self.check([[result] for result in expected], *calls, *questions)

    def test_each_kind(self):
        self.checks([1, 1, 1], *SMALL)
        self.checks([0, 0, 0], *UNEQUAL)
        self.checks([0, 1, 1], *SMALL, *settings((0, 0, 1, 0, 4), (1, 0, 1, 0, 5)))
        self.checks([0, 0, 1], *SMALL, *settings((1, 0, 0, 0, 5)))
        self.checks([0, 0, 1], *SMALL, *settings((0, 0, 1, 0, 5)))
        self.checks([1, 1, 1], *UNEQUAL, ("copy_rewards", 0), ("shape_rewards", 0, [3, 1]))

    def test_bounds(self):
        for value, result in ((0, 0), (9, 0), (10, 1), (11, 1), (100000, 1)):
            self.check([[result]], *UNEQUAL, ("check_guarantee", 2, value))
        for value, result in ((13, 0), (14, 1)):
            self.check([[result]], *REGRETTED, ("check_guarantee", 2, value))
        most = SMALL + settings((1, 0, 1, 0, 1000)) + (("scale_rewards", 1, 100),)
        self.check([[200000], [0]], *most, ("least_regret_bound",), ("check_guarantee", 2, 100000))

    def test_kinds_and_values_out_of_limits(self):
        for setup in (SMALL, UNEQUAL, FULL):
            for kind, value in OUT_OF_LIMITS:
                with self.subTest(setup=setup, kind=kind, value=value):
                    self.check([[-22]], *setup, ("check_guarantee", kind, value))

    def test_neither_those_that_are_there_nor_their_number_matter(self):
        self.check([[1], [1], [1], [1]], *FULL, ("check_guarantee", 0, 0), ("check_guarantee", 1, 0),
                   ("check_guarantee", 2, 5), ("check_guarantee", 2, 0))
        three = UNEQUAL + (("add_guarantee", 2, 10), ("add_guarantee", 2, 11), ("add_guarantee", 2, 12))
        self.check([[0], [1]], *three, ("check_guarantee", 1, 0), ("check_guarantee", 2, 13))

    def test_it_adds_nothing(self):
        for setup in (SMALL, UNEQUAL, FULL):
            before = everything(setup, 2, 2)
            for kind, value in ((0, 0), (2, 20), (2, 100001)):
                self.assertEqual(everything(setup + (("check_guarantee", kind, value),), 2, 2), before)


RUN = (("run_episode", 1, 0, [3, 500, 999]), ("run_episode", 0, 1, []))
EQUIVALENT = MOVING + (("set_rewards", 0, [5, -7, 11, 13, -17, 19, 23, -29]), ("copy_rewards", 1))
EQUIVALENT += (("shape_rewards", 1, [2, -3]),) + RUN
# By both tables going is the best in both states, as long as staying in state 0 does not lead to state 1.
AGREEING = MOVING + settings((0, 0, 1, 1, 4), (1, 0, 1, 1, 10), (1, 1, 1, 0, 1), (1, 0, 0, 1, 50)) + RUN
# Table 0 leads to and fro, which is worth 40/3 and 20/3 by table 1; staying in state 0 makes it 20 and 10.
BOUNDED = MOVING + settings((0, 0, 1, 1, 10), (1, 0, 1, 1, 10), (1, 0, 0, 0, 10)) + RUN

# For each kind: the state, the guarantee, what it refuses, and what it doesn't, with the answers.
ENFORCED = (
    (EQUIVALENT, ("add_guarantee", 0, 0), (
        ("set_reward", 0, 0, 0, 0, [6]),
        ("set_reward", 1, 1, 1, 0, [22]),
        ("set_rewards", 0, [5, -7, 11, 13, -17, 19, 23, -28]),
        ("set_rewards", 1, [0] * 8),
        ("scale_rewards", 0, 2),
        ("scale_rewards", 1, 100),
    ), (
        (("set_reward", 0, 0, 0, 0, [5]), [0, 5]),
        (("set_rewards", 0, [5, -7, 11, 13, -17, 19, 23, -29]), [0]),
        (("copy_rewards", 0), [0]),
        (("copy_rewards", 1), [0]),
        (("shape_rewards", 0, [900, -1000]), [0]),
        (("shape_rewards", 1, [0, 1]), [0]),
        (("scale_rewards", 0, 1), [0]),
        (("set_transition", 0, 1, [4, 9]), [13]),
        (("set_deterministic", [1, 1, 0, 0]), [0]),
    )),
    (AGREEING, ("add_guarantee", 1, 0), (
        ("set_reward", 0, 0, 0, 0, [20]),
        ("set_reward", 1, 0, 0, 0, [20]),
        ("set_reward", 1, 1, 0, 1, [10]),
        ("set_rewards", 0, [0] * 8),
        ("set_rewards", 1, [0] * 8),
        ("set_transition", 0, 0, [0, 1]),
        ("set_transition", 0, 0, [1, 9]),
        ("set_transition", 1, 0, [7, 0]),
        ("set_deterministic", [1, 1, 1, 0]),
        ("set_deterministic", [1, 0, 1, 0]),
    ), (
        (("set_reward", 0, 0, 0, 0, [1]), [0, 0]),
        (("set_rewards", 1, [0, 0, 0, 9, 0, 0, 0, 0]), [0]),
        (("copy_rewards", 0), [0]),
        (("copy_rewards", 1), [0]),
        (("shape_rewards", 0, [900, -1000]), [0]),
        (("shape_rewards", 1, [-1, 1]), [0]),
        (("scale_rewards", 0, 100), [0]),
        (("scale_rewards", 1, 3), [0]),
        (("set_transition", 1, 1, [1, 1]), [2]),
        (("set_deterministic", [0, 1, 1, 0]), [0]),
    )),
    (BOUNDED, ("add_guarantee", 2, 7), (
        ("set_reward", 0, 1, 0, 1, [100]),
        ("set_reward", 1, 0, 0, 0, [11]),
        ("set_rewards", 0, [0] * 8),
        ("set_rewards", 1, [0, 0, 0, 0, 0, 9, 0, 0]),
        ("scale_rewards", 1, 2),
        ("set_transition", 0, 1, [1, 0]),
        ("set_transition", 0, 1, [9, 1]),
        ("set_deterministic", [0, 0, 1, 0]),
        ("set_deterministic", [0, 1, 1, 1]),
    ), (
        (("set_reward", 0, 0, 0, 0, [1]), [0, 0]),
        (("set_reward", 1, 0, 0, 0, [3]), [0, 10]),
        (("set_rewards", 1, [0] * 8), [0]),
        (("copy_rewards", 0), [0]),
        (("copy_rewards", 1), [0]),
        (("shape_rewards", 0, [900, -1000]), [0]),
        (("shape_rewards", 1, [-100, 1]), [0]),
        (("scale_rewards", 0, 100), [0]),
        (("scale_rewards", 1, 1), [0]),
        (("set_transition", 1, 0, [0, 9]), [9]),
        (("set_deterministic", [0, 1, 1, 0]), [0]),
    )),
)


def spoilt(name, *given):
    """The same call with one thing wrong, and the code for it."""
    table, row = (2,) + given[1:], given[-1]
    if name == "set_reward":
        for place in range(4):
            yield (name, *given[:place], 2, *given[place + 1:]), -2
        for value in ([], row + row, [1001], [-1001]):
            yield (name, *given[:4], value), -22
    elif name == "set_rewards":
        yield (name, *table), -2
        for rewards in (row[1:], row + [0], row[1:] + [1001]):
            yield (name, given[0], rewards), -22
    elif name == "scale_rewards":
        yield (name, *table), -2
        yield (name, given[0], 0), -22
        yield (name, given[0], 101), -22
    elif name == "set_transition":
        yield (name, 2, given[1], row), -2
        yield (name, given[0], 2, row), -2
        for weights in (row[1:], row + [1], [0, 10], [0, 0]):
            yield (name, *given[:2], weights), -22
    else:
        for targets in (row[1:], row + [0], row[1:] + [2]):
            yield (name, targets), -22


class Enforcement(GuaranteeCase):
    def each_refused(self):
        for setup, guarantee, refused, _ in ENFORCED:
            for call in refused:
                with self.subTest(guarantee=guarantee, call=call):
                    yield setup, guarantee, call

    def test_the_guarantees_hold_at_first(self):
        for setup, guarantee, _, _ in ENFORCED:
            self.check([[0]], *setup, guarantee)

    def test_what_would_violate_a_guarantee_is_refused(self):
        for setup, guarantee, call in self.each_refused():
            self.check([[-30]], *setup, guarantee, call)

    def test_without_the_guarantee_it_succeeds_and_violates_it(self):
        for setup, guarantee, call in self.each_refused():
            row = ask(*setup, call, ("check_guarantee", *guarantee[1:]), guarantee)[-3:]
            self.assertGreaterEqual(row[0][0], 0)
            self.assertEqual(row[1:], [[0], [-30]])

    def test_a_refused_change_leaves_the_state_as_it_was(self):
        kept = {guarantee: everything(setup + (guarantee,), 2, 2) for setup, guarantee, _, _ in ENFORCED}
        for setup, guarantee, call in self.each_refused():
            self.assertEqual(everything(setup + (guarantee, call), 2, 2), kept[guarantee])

    def test_what_is_compared_there_holds_guarantees_and_episodes(self):
        setup, guarantee, _, _ = ENFORCED[0]
        kept = everything(setup + (guarantee,), 2, 2)
        for call in (("remove_guarantee", 0), ("add_guarantee", 2, 5), ("run_episode", 0, 1, [])):
            self.assertNotEqual(everything(setup + (guarantee, call), 2, 2), kept)

    def test_a_refused_change_is_refused_again_and_again(self):
        for setup, guarantee, call in self.each_refused():
            self.check([[0], [-30], [-30], [-30]], *setup, guarantee, call, call, call)

    def test_the_other_errors_come_first(self):
        for setup, guarantee, call in self.each_refused():
            for wrong, code in spoilt(*call):
                with self.subTest(wrong=wrong):
                    self.check([[0], [code]], *setup, guarantee, wrong)

    def test_a_reward_that_would_be_too_large_comes_first(self):
        large = SMALL + (("set_reward", 0, 0, 1, 0, [1000]), ("scale_rewards", 0, 50), ("copy_rewards", 1))
        self.check([[0], [-30], [-75]], *large, ("add_guarantee", 0, 0), ("scale_rewards", 1, 2), ("scale_rewards", 1, 3))
        large = SMALL + (("set_reward", 1, 0, 1, 0, [1000]), ("scale_rewards", 1, 50))
        self.check([[0], [-30], [-75]], *large, ("add_guarantee", 2, 100000), ("scale_rewards", 1, 2), ("scale_rewards", 1, 3))

    def test_what_keeps_the_guarantee_succeeds(self):
        for setup, guarantee, _, allowed in ENFORCED:
            for call, answer in allowed:
                with self.subTest(guarantee=guarantee, call=call):
                    self.check([answer, [1]], *setup, guarantee, call, ("check_guarantee", *guarantee[1:]))
                    self.assertEqual(everything(setup + (guarantee, call), 2, 2)[1:], everything(setup + (call,), 2, 2)[1:])

    def test_each_of_several_guarantees_counts(self):
        for setup, guarantee, call in self.each_refused():
            loose = [("add_guarantee", 2, 100000), ("add_guarantee", 2, 99999)]
            for place in range(3):
                three = loose[:place] + [guarantee] + loose[place:]
                self.check([[-30]], *setup, *three, call)
            self.assertNotEqual(last(*setup, *loose, call), [-30])

    def test_a_bound_is_reached_and_not_passed(self):
        bounded = SMALL + (("add_guarantee", 2, 10),)
        self.check([[0, 0], [-30], [0, 5], [0, 4]], *bounded,
                   *settings((1, 0, 1, 0, 5), (1, 0, 1, 0, 6), (1, 0, 1, 0, 4), (1, 0, 1, 0, 5)))
        # Going to and fro is worth 4/3 of the reward.
        for value, most in ((13, 9), (14, 10), (15, 11), (16, 12)):
            bounded = MOVING + (("add_guarantee", 2, value),)
            self.check([[0, 0], [-30]], *bounded, *settings((1, 0, 1, 1, most), (1, 0, 1, 1, most + 1)))

    def test_a_bound_of_100000(self):
        calls = SMALL + (("add_guarantee", 2, 100000),) + settings((1, 0, 1, 0, 500)) + (("scale_rewards", 1, 100),)
        self.check([[0], [0, 0], [0], [-30], [0, 0], [99998]], *calls,
                   *settings((1, 0, 0, 0, -1), (1, 0, 0, 0, 1)), ("least_regret_bound",))

    def test_a_refused_change_does_not_hinder_later_ones(self):
        calls = EQUIVALENT + (("add_guarantee", 0, 0), ("set_reward", 0, 0, 0, 0, [6]), ("scale_rewards", 1, 2))
        self.check([[-30], [-30], [0], [0, 5]], *calls, ("copy_rewards", 1), ("set_reward", 0, 0, 0, 0, [5]))

    def test_create_is_not_refused(self):
        for setup, guarantee, _, _ in ENFORCED:
            self.check([[8], [4, 2, 2, 0, 0]], *setup, guarantee, *SMALL, ("status",))


if __name__ == "__main__":
    unittest.main()
