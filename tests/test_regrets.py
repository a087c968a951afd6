"""The calls that ask for optimal policies and regrets."""

import unittest

from tests.helper import BIGGEST, Account, ask, everything, fractions_in, last, listed, settings
from tests.test_account import Case

SMALL = (("create", 2, 2, 1, 2),)
THREE = (("create", 2, 3, 1, 2),)
# With two states and two actions, action 0 stays and action 1 goes to the other state.
MOVING = SMALL + (("set_deterministic", [0, 1, 1, 0]),)


def chances(*rows):
    """Calls that set the transitions of all states and two actions."""
    return tuple(("set_transition", place // 2, place % 2, row) for place, row in enumerate(rows))


# Regrets with numerators beyond 64 bits, and with denominators beyond what 64 bits with a sign hold.
LONG_ABOVE = (
    ("create", 4, 2, 7, 10),
    ("set_rewards", 0, [
        89, 712, 752, 619, -617, 907, -349, -94, -631, -98, -813, 202, -561, -854, 149, -40,
        -325, -563, 552, -561, -923, 292, 170, 452, -960, 726, -332, 746, 405, -75, 184, 787,
    ]),
    ("set_rewards", 1, [
        -637, 833, -146, -564, 696, 187, 842, 503, -637, -785, 329, 356, 762, 295, -621, -424,
        -528, -692, -895, -574, -667, 568, 318, -989, 149, -731, 370, -563, 484, -179, 196, -535,
    ]),
) + chances(
    [5, 4, 7, 8], [8, 7, 9, 4], [9, 2, 5, 3], [7, 9, 9, 9], [6, 2, 3, 3], [9, 8, 6, 8], [1, 1, 9, 4], [4, 4, 7, 4],
)
LONG_BELOW = (
    ("create", 4, 2, 1, 10),
    ("set_rewards", 0, [
        1, -5, -8, 6, 2, -6, -2, 3, 7, 6, 4, -7, -2, 6, 2, -2, 1, -1, 5, 5, 7, -4, -6, 7, 5, 3, 9, 6, -6, -1, -7, 2,
    ]),
    ("set_rewards", 1, [
        3, 9, 7, -8, 6, 8, 1, -5, 6, -5, -8, -9, -7, 7, -6, 1, 8, -7, -4, 0, -7, 1, 7, 0, 7, 4, 3, 9, -1, 3, 2, -9,
    ]),
) + chances(
    [9, 8, 7, 8], [8, 8, 9, 7], [9, 8, 9, 8], [9, 8, 9, 9], [9, 9, 8, 7], [8, 7, 7, 9], [8, 9, 8, 9], [8, 7, 8, 7],
)


def account_of(calls):
    """The account of a process that is made by a create, two set_rewards and then transitions alone."""
    create, first, second, *rows = calls
    return Account(*create[1:], [first[2], second[2]], [row[3] for row in rows])


class OptimalPolicy(unittest.TestCase):
    def check(self, expected, table, *calls):
        self.assertEqual(last(*calls, ("optimal_policy", table)), expected)

    def test_without_rewards_action_0(self):
        self.check([2, 0, 0], 0, *SMALL)
        self.check([4, 0, 0, 0, 0], 1, ("create", 4, 3, 9, 10))
        self.check([3, 0, 0, 0], 1, ("create", 3, 1, 1, 10))

    def test_the_best_action_of_each_state(self):
        for first in range(3):
            for second in range(3):
                calls = THREE + settings((0, 0, first, 0, 5), (0, 1, second, 1, 7))
                self.check([2, first, second], 0, *calls)
                self.check([2, 0, 0], 1, *calls)

    def test_each_table_by_itself(self):
        calls = THREE + settings((0, 0, 2, 0, 1), (1, 1, 1, 1, 1))
        self.check([2, 2, 0], 0, *calls)
        self.check([2, 0, 1], 1, *calls)

    def test_the_smallest_number_of_several_optimal_actions(self):
        self.check([2, 1, 0], 0, *THREE, *settings((0, 0, 1, 0, 5), (0, 0, 2, 0, 5)))
        self.check([2, 0, 0], 0, *THREE, *settings((0, 0, 0, 0, 5), (0, 0, 2, 0, 5)))
        self.check([2, 1, 1], 0, *THREE, *settings((0, 0, 0, 0, -5), (0, 1, 0, 1, -1)))

    def test_a_first_action_that_is_optimal_after_all(self):
        # Staying in state 0 is worth 4 / (1 - 1/2) = 8, and going 1/2 * 8 / (1 - 1/2) = 8, but less than that unless
        # the best is done in state 1.
        calls = SMALL + (("set_deterministic", [1, 0, 1, 1]),) + settings((0, 0, 1, 0, 4), (0, 1, 0, 1, -3), (0, 1, 1, 1, 8))
        self.check([2, 0, 1], 0, *calls)
        self.check([2, 1, 1], 0, *calls, *settings((0, 1, 1, 1, 7)))

    def test_later_rewards_count(self):
        calls = SMALL + settings((0, 1, 0, 1, 5), (0, 1, 1, 1, 5))
        self.check([2, 0, 0], 0, *calls)
        self.check([2, 1, 0], 0, *calls, ("set_deterministic", [0, 1, 1, 1]))

    def test_the_discount_counts(self):
        # Staying pays 3 each time, and going pays nothing once and then 4 each time.
        for num, den, action in ((1, 2, 0), (7, 10, 0), (3, 4, 0), (4, 5, 1), (9, 10, 1)):
            calls = (("create", 2, 2, num, den), ("set_deterministic", [0, 1, 1, 1]))
            calls += settings((0, 0, 0, 0, 3), (0, 1, 0, 1, 4), (0, 1, 1, 1, 4))
            self.check([2, action, 0], 0, *calls)

    def test_a_tie_that_fractions_alone_find(self):
        # Waiting is worth 3 / (1 - 1/3) = 9/2, and trying to leave 4 + 1/3 * 1/3 * 9/2 = 9/2.
        tie = (("create", 2, 2, 1, 3), ("set_transition", 0, 1, [1, 2]))
        tie += settings((0, 0, 0, 0, 3), (0, 0, 1, 0, 4))
        self.check([2, 0, 0], 0, *tie, *settings((0, 0, 1, 1, 4)))
        self.check([2, 0, 0], 0, *tie, *settings((0, 0, 1, 1, 3)))
        self.check([2, 1, 0], 0, *tie, *settings((0, 0, 1, 1, 5)))

    def test_no_such_table(self):
        self.check([-2], 2, *SMALL)
        self.check([-2], BIGGEST, *SMALL)

    def test_drawn_processes(self):
        for seed in range(40):
            case = Case(seed)
            for table in (0, 1):
                with self.subTest(seed=seed, table=table):
                    expected = [case.sizes[0]] + case.account.optimal_policy(table)
                    self.assertEqual(case.ask(("optimal_policy", table)), expected)


class Regrets(unittest.TestCase):
    def check(self, expected, *calls):
        self.assertEqual(last(*calls, ("regrets",)), expected)

    def test_nothing_to_regret(self):
        self.check([2, 0, 1, 0, 1], *SMALL)
        self.check([4, 0, 1, 0, 1, 0, 1, 0, 1], ("create", 4, 3, 9, 10))
        self.check([2, 0, 1, 0, 1], ("create", 2, 1, 1, 2), ("set_rewards", 1, [5, -6, 7, -8]))

    def test_staying_where_going_pays(self):
        # To and fro by table 1: v0 = 10 + v1 / 2 and v1 = v0 / 2.
        self.check([2, 40, 3, 20, 3], *MOVING, *settings((1, 0, 1, 1, 10)))
        self.check([2, 20, 3, 40, 3], *MOVING, *settings((1, 1, 1, 0, 10)))

    def test_it_is_counted_by_table_1_under_the_policy_of_table_0(self):
        self.check([2, 0, 1, 0, 1], *MOVING, *settings((0, 0, 1, 1, 10)))
        self.check([2, 0, 1, 0, 1], *MOVING, *settings((0, 0, 1, 1, 10), (1, 0, 1, 1, 3)))
        # Table 0 leads to state 1 for ever, which is worth 2 + 1/2 * 2 and 2 by table 1. To and fro would be worth 14/3
        # and 16/3.
        calls = MOVING + settings((0, 0, 0, 0, 2), (0, 1, 0, 1, 9))
        calls += settings((1, 0, 0, 0, -1), (1, 0, 1, 1, 2), (1, 1, 0, 1, 1), (1, 1, 1, 0, 3))
        self.check([2, 5, 3, 10, 3], *calls)

    def test_the_smallest_of_several_optimal_actions_is_followed(self):
        self.check([2, 0, 1, 0, 1], *SMALL, *settings((1, 0, 0, 0, 3)))
        self.check([2, 6, 1, 0, 1], *SMALL, *settings((1, 0, 1, 0, 3)))
        self.check([2, 2, 1, 0, 1], *THREE, *settings((0, 0, 0, 0, -1), (1, 0, 1, 0, 3), (1, 0, 2, 0, 4)))
        self.check([2, 0, 1, 0, 1], *THREE, *settings((0, 0, 0, 0, -1), (1, 0, 1, 0, 4), (1, 0, 2, 0, 3)))

    def test_a_choice_that_table_1_does_not_care_for(self):
        self.check([2, 0, 1, 0, 1], *THREE, *settings((0, 0, 1, 0, 9), (0, 1, 2, 1, 9)))

    def test_rewards_below_0(self):
        self.check([2, 20, 1, 6, 1], *SMALL, *settings((1, 0, 0, 0, -10), (1, 1, 0, 1, -3)))
        self.check([2, 14, 1, 0, 1], *SMALL, *settings((1, 0, 0, 0, -10), (1, 0, 1, 0, -3), (1, 1, 0, 1, 0)))

    def test_chances_and_lowest_terms(self):
        # By table 1, action 1 is worth v = 2/3 * 6 + 1/4 * 1/3 * v in state 0, which is 48/11.
        calls = (("create", 2, 2, 1, 4), ("set_transition", 0, 1, [3, 6]))
        self.check([2, 48, 11, 0, 1], *calls, *settings((1, 0, 1, 1, 6)))
        # 1 each time, with the discount 2/8.
        calls = (("create", 2, 2, 2, 8), ("set_transition", 0, 0, [4, 4]), ("set_transition", 1, 0, [0, 6]))
        self.check([2, 4, 3, 0, 1], *calls, *settings((1, 0, 1, 0, 1)))

    def test_equivalent_tables_leave_nothing_to_regret(self):
        calls = MOVING + (("set_rewards", 0, [5, -7, 11, 13, -17, 19, 23, -29]), ("copy_rewards", 1))
        calls += (("shape_rewards", 1, [90, -80]), ("set_transition", 1, 1, [2, 7]))
        self.check([2, 0, 1, 0, 1], *calls)

    def test_shaping_keeps_them_and_scaling_table_1_multiplies_them(self):
        calls = MOVING + settings((1, 0, 1, 1, 10))
        self.check([2, 40, 3, 20, 3], *calls, ("shape_rewards", 1, [9, -5]), ("shape_rewards", 0, [-90, 4]))
        self.check([2, 40, 1, 20, 1], *calls, ("scale_rewards", 1, 3))
        self.check([2, 40, 3, 20, 3], *calls, ("scale_rewards", 0, 3))

    def test_beyond_64_bits(self):
        above, below = last(*LONG_ABOVE, ("regrets",)), last(*LONG_BELOW, ("regrets",))
        self.assertEqual(above, [4] + listed(account_of(LONG_ABOVE).regrets()))
        self.assertEqual(below, [4] + listed(account_of(LONG_BELOW).regrets()))
        self.assertEqual(max(above), 576116101348813064000)
        self.assertEqual(max(below[2::2]), 13019147287843245093)

    def test_drawn_processes(self):
        for seed in range(60):
            with self.subTest(seed=seed):
                case = Case(seed)
                found = case.ask(("regrets",))
                self.assertEqual(found, [case.sizes[0]] + listed(case.account.regrets()))
                self.assertEqual(listed(fractions_in(found[1:])), found[1:])
                self.assertTrue(all(denominator > 0 for denominator in found[2::2]))


class LeastRegretBound(unittest.TestCase):
    def check(self, expected, *calls):
        self.assertEqual(last(*calls, ("least_regret_bound",)), [expected])

    def test_nothing_to_regret(self):
        self.check(0, *SMALL)
        self.check(0, ("create", 4, 3, 9, 10))

    def test_a_whole_regret_is_its_own_bound(self):
        for reward, bound in ((1, 2), (2, 4), (3, 6), (1000, 2000)):
            self.check(bound, *SMALL, *settings((1, 0, 1, 0, reward)))

    def test_others_are_rounded_up(self):
        # To and fro is worth 4/3 of the reward.
        for reward, bound in ((1, 2), (2, 3), (3, 4), (4, 6), (5, 7), (6, 8), (10, 14)):
            self.check(bound, *MOVING, *settings((1, 0, 1, 1, reward)))

    def test_a_regret_between_0_and_1(self):
        # v = 1/9 + 1/2 * 8/9 * v.
        calls = SMALL + (("set_transition", 0, 1, [8, 1]),) + settings((1, 0, 1, 1, 1))
        self.assertEqual(last(*calls, ("regrets",)), [2, 1, 5, 0, 1])
        self.check(1, *calls)

    def test_the_greatest_of_all_regrets(self):
        for state in range(4):
            rewards = [(1, other, 1, other, 50 if other == state else 7) for other in range(4)]
            self.check(100, ("create", 4, 2, 1, 2), *settings(*rewards))

    def test_the_greatest_by_its_amount_and_not_by_its_numerator(self):
        calls = SMALL + (("set_transition", 1, 1, [2, 3]),) + settings((1, 0, 1, 0, 10))
        self.assertEqual(last(*calls, ("regrets",)), [2, 20, 1, 40, 7])
        self.check(20, *calls)

    def test_above_100000(self):
        most = (("set_rewards", 1, [-1000] * 2 + [1000] * 2 + [0] * 4), ("scale_rewards", 1, 100))
        self.check(400000, *SMALL, *most)
        self.check(2000000, ("create", 2, 2, 9, 10), *most)
        edge = SMALL + settings((1, 0, 1, 0, 500)) + (("scale_rewards", 1, 100),)
        self.check(100000, *edge)
        self.check(100002, *edge, *settings((1, 0, 0, 0, -1)))

    def test_of_regrets_beyond_64_bits(self):
        self.check(1277, *LONG_ABOVE)
        self.check(3, *LONG_BELOW)


class Asking(unittest.TestCase):
    def test_asking_changes_nothing(self):
        setup = MOVING + settings((0, 0, 0, 0, 2), (1, 0, 1, 1, 10)) + (("set_transition", 1, 0, [2, 3]),)
        setup += (("add_guarantee", 2, 50), ("run_episode", 0, 0, [5, 500]))
        before = everything(setup, 2, 2)
        for question in (("optimal_policy", 0), ("optimal_policy", 1), ("optimal_policy", 2), ("regrets",),
                         ("least_regret_bound",), ("status",)):
            with self.subTest(question=question):
                self.assertEqual(everything(setup + (question,), 2, 2), before)
                self.assertEqual(ask(*setup, question, question)[-1], last(*setup, question))


if __name__ == "__main__":
    unittest.main()
