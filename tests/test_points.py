"""What the document promises over the whole program, point by point, by hand and over many drawn lists of calls."""

import unittest

from tests.helper import Drawn, ask, everything, fractions_in, last, settings

MOVING = (("create", 2, 2, 1, 2), ("set_deterministic", [0, 1, 1, 0]))
READS = tuple(("get_guarantee", place) for place in range(3))
EPISODES = tuple(("get_episode", place) for place in range(12))
RANDOMS = ([], [0], [999], [500, 250], [334, 667, 100, 900, 5, 995])


def prefixes(calls):
    """The calls up to each one, with the answer to that one."""
    for place, answer in enumerate(ask(*calls)):
        yield tuple(calls[:place + 1]), answer


def guaranteed(calls):
    """The guarantees behind the calls."""
    return [row for row in ask(*calls, *READS)[-3:] if len(row) == 2]


def recorded(calls):
    """The episodes behind the calls."""
    return [row for row in ask(*calls, *EPISODES)[-12:] if row[0] >= 0]


class GuaranteesAlwaysHold(unittest.TestCase):
    def test_after_each_of_many_calls(self):
        seen = 0
        for seed in range(25):
            for calls, answer in prefixes(Drawn(seed).calls(40)):
                checks = [("check_guarantee", kind, value) for kind, value in guaranteed(calls)]
                with self.subTest(seed=seed, call=calls[-1]):
                    self.assertEqual(ask(*calls, *checks)[len(calls):], [[1]] * len(checks))
                seen += len(checks)
        self.assertGreater(seen, 1000)

    def test_an_error_leaves_the_state_as_it_was(self):
        codes = set()
        for seed in range(30):
            drawn = Drawn(seed, 2)
            calls = tuple(drawn.equivalent()) + (("run_episode", 0, 1, [5, 999]), ("add_guarantee", seed % 3, 0))
            before = everything(calls, *drawn.sizes[:2])
            for name in drawn.CHANGES + drawn.OTHERS:
                for wrong in (False, True):
                    call = drawn.call(name, wrong)
                    answer = last(*calls, call)
                    if answer[0] < 0:
                        with self.subTest(seed=seed, call=call):
                            self.assertEqual(everything(calls + (call,), *calls[0][1:3]), before)
                        codes.add((name, answer[0]))
        for name, code in (("create", -22), ("set_reward", -30), ("set_rewards", -30), ("scale_rewards", -30),
                           ("set_reward", -2), ("set_transition", -2), ("add_guarantee", -17), ("add_guarantee", -22),
                           ("run_episode", -2), ("get_episode", -2), ("remove_guarantee", -2)):
            self.assertIn((name, code), codes)

    def test_no_call_but_create_removes_or_changes_an_episode(self):
        most = 0
        for seed in range(25):
            before = []
            for calls, answer in prefixes(Drawn(seed).calls(45)):
                now = recorded(calls)
                with self.subTest(seed=seed, call=calls[-1]):
                    if calls[-1][0] == "create" and answer[0] >= 0:
                        self.assertEqual(now, [])
                    elif calls[-1][0] == "run_episode" and answer[0] >= 0:
                        self.assertEqual(now, before + [answer])
                    else:
                        self.assertEqual(now, before)
                before = now
                most = max(most, len(now))
        self.assertGreater(most, 7)


class EquivalenceImpliesEverything(unittest.TestCase):
    def check_all(self, calls, changes):
        """Behind each of the changes of the transitions the actions agree and nothing is to regret."""
        for change in changes:
            calls = calls + (change,)
            change_answer, same, regrets, bound = ask(*calls, ("same_optimal_actions",), ("regrets",),
                                                      ("least_regret_bound",))[-4:]
            with self.subTest(calls=calls):
                self.assertGreaterEqual(change_answer[0], 0)
                self.assertEqual([same, regrets, bound], [[1], [regrets[0]] + [0, 1] * regrets[0], [0]])

    def test_every_deterministic_world_of_two_states(self):
        calls = MOVING + (("set_rewards", 0, [5, -7, 11, 13, -17, 19, 23, -29]), ("copy_rewards", 1))
        calls += (("shape_rewards", 1, [9, -8]), ("add_guarantee", 0, 0), ("add_guarantee", 1, 0), ("add_guarantee", 2, 0))
        worlds = [[world >> bit & 1 for bit in range(4)] for world in range(16)]
        self.check_all(calls, [("set_deterministic", world) for world in worlds])

    def test_drawn_changes(self):
        for seed in range(50):
            drawn = Drawn(seed, 4)
            calls = tuple(drawn.equivalent()) + (("add_guarantee", 0, 0),)
            if seed % 2:
                calls += (("add_guarantee", 2, 0), ("add_guarantee", 1, 0))
            names = ("set_transition", "set_transition", "set_deterministic")
            self.check_all(calls, [drawn.call(name) for name in names * 3])

    def test_wrong_changes_are_refused_by_other_codes(self):
        for seed in range(50):
            drawn = Drawn(seed)
            calls = tuple(drawn.equivalent()) + (("add_guarantee", 0, 0),)
            changes = [drawn.call(name, wrong=True) for name in ("set_transition", "set_deterministic") * 5]
            self.assertNotIn([-30], ask(*calls, *changes))


class CorrectedReturns(unittest.TestCase):
    def test_they_are_the_returns_by_table_0(self):
        shaped = 0
        for seed in range(60):
            drawn = Drawn(seed, 4)
            calls = tuple(drawn.equivalent())
            for place in range(8):
                calls += (drawn.call("run_episode"),)
                ran, corrected = ask(*calls, ("corrected_return", place))[-2:]
                with self.subTest(seed=seed, call=calls[-1]):
                    self.assertEqual(corrected, [0] + ran[1:3])
                shaped += ran[1:3] != ran[3:5]
        self.assertGreater(shaped, 200)

    def test_after_each_of_many_calls(self):
        seen = 0
        for seed in range(60):
            for calls, answer in prefixes(Drawn(seed).calls(40)):
                if calls[-1][0] == "run_episode" and answer[0] >= 0:
                    place = len(recorded(calls)) - 1
                    equivalent, corrected = ask(*calls, ("are_equivalent",), ("corrected_return", place))[-2:]
                    with self.subTest(seed=seed, call=calls[-1]):
                        self.assertEqual(corrected, [0] + answer[1:3] if equivalent == [1] else [-33])
                    seen += equivalent == [1]
        self.assertGreater(seen, 100)


class SameActionsSameEpisodes(unittest.TestCase):
    def episodes(self, calls, states):
        """All previews by table 0 and all by table 1."""
        both = []
        for table in (0, 1):
            previews = [("preview_episode", table, state, randoms) for state in range(states) for randoms in RANDOMS]
            both.append(ask(*calls, *previews)[-len(previews):])
        return both

    def test_the_same_actions_for_other_rewards(self):
        calls = MOVING + settings((0, 0, 1, 1, 4), (0, 1, 0, 1, 2), (1, 0, 1, 1, 10), (1, 1, 0, 1, 7))
        first, second = self.episodes(calls, 2)
        self.assertEqual(first, second)
        self.assertEqual(first[3], [2, 5, 1, 27, 2, 1, 1, 0, 1])

    def test_drawn_tables(self):
        alike = 0
        for seed in range(150):
            drawn = Drawn(seed, 4)
            kind = drawn.numbers.below(3)
            calls = drawn.apart() if kind == 0 else drawn.equivalent()
            if kind == 2:
                calls.append(("scale_rewards", drawn.numbers.below(2), drawn.numbers.between(1, 50)))
            same, equivalent = ask(*calls, ("same_optimal_actions",), ("are_equivalent",))[-2:]
            if same == [1]:
                first, second = self.episodes(calls, calls[0][1])
                with self.subTest(seed=seed):
                    self.assertEqual(first, second)
                alike += equivalent == [0]
        self.assertGreater(alike, 20)

    def test_other_actions_may_lead_elsewhere(self):
        first, second = self.episodes(MOVING + settings((1, 0, 1, 1, 5)), 2)
        self.assertNotEqual(first, second)


class BoundsAndTheLeastBound(unittest.TestCase):
    def check_bound(self, calls):
        """The least bound behind the calls, compared with bounds around it and with the regrets."""
        bound, regrets = ask(*calls, ("least_regret_bound",), ("regrets",))[-2:]
        values = [value for value in (0, bound[0] - 1, bound[0], bound[0] + 1, 99999, 100000) if 0 <= value <= 100000]
        for value in values:
            holds = value >= bound[0]
            with self.subTest(calls=calls, value=value):
                self.assertEqual(last(*calls, ("check_guarantee", 2, value)), [1 if holds else 0])
                self.assertEqual(last(*calls, ("add_guarantee", 2, value)), [0] if holds else [-30])
        self.assertTrue(all(regret <= bound[0] for regret in fractions_in(regrets[1:])))
        self.assertTrue(any(regret > bound[0] - 1 for regret in fractions_in(regrets[1:])))
        return bound[0]

    def test_by_hand(self):
        for reward, bound in ((0, 0), (1, 2), (3, 4), (10, 14), (-10, 0)):
            self.assertEqual(self.check_bound(MOVING + settings((1, 0, 1, 1, reward))), bound)

    def test_around_100000(self):
        for reward, bound in ((749, 99867), (750, 100000), (751, 100134), (1000, 133334)):
            calls = MOVING + settings((1, 0, 1, 1, reward)) + (("scale_rewards", 1, 100),)
            self.assertEqual(self.check_bound(calls), bound)

    def test_drawn_tables(self):
        bounds = set()
        for seed in range(80):
            drawn = Drawn(seed, 4)
            calls = drawn.apart()
            if seed % 4 == 0:
                calls.append(("scale_rewards", 1, 100))
            bounds.add(self.check_bound(tuple(calls)))
        self.assertGreater(len(bounds), 30)
        self.assertGreater(max(bounds), 100000)


class RunsAndPreviews(unittest.TestCase):
    def test_a_run_answers_what_a_preview_answered(self):
        codes = set()
        for seed in range(60):
            drawn = Drawn(seed, 4)
            calls = tuple(drawn.calls(25))
            for _ in range(10):
                arguments = drawn.call("run_episode", wrong=drawn.numbers.below(4) == 0)[1:]
                count = last(*calls, ("status",))[4]
                preview, run = ask(*calls, ("preview_episode", *arguments), ("run_episode", *arguments))[-2:]
                with self.subTest(seed=seed, arguments=arguments):
                    self.assertEqual(run, [-28] if count == 12 and preview[0] >= 0 else preview)
                codes.add(min(run[0], 0))
                calls += (("run_episode", *arguments),)
        self.assertEqual(codes, {0, -2, -22, -28})


if __name__ == "__main__":
    unittest.main()
