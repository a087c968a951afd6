"""Many drawn lists of calls, each answer compared with what the document's own words ask."""

import unittest
from collections import Counter

from shapewatch.monitor import answers
from tests.helper import CALL_NUMBERS, Drawn, Model, ask, told


class DrawnRequests(unittest.TestCase):
    def check(self, seeds, count, most_states):
        seen = Counter()
        for seed in seeds:
            calls = Drawn(seed, most_states).calls(count)
            model = Model()
            for place, (call, found) in enumerate(zip(calls, ask(*calls))):
                with self.subTest(seed=seed, place=place, call=call):
                    self.assertEqual(found, model.answer(*call))
                seen[call[0], min(found[0], 0)] += 1
        return seen

    def test_requests_of_60_calls(self):
        seen = self.check(range(60), 60, 3)
        for name in CALL_NUMBERS:
            self.assertGreater(seen[name, 0], 5, name)
        for name in ("set_reward", "set_rewards", "scale_rewards", "set_transition", "set_deterministic"):
            self.assertGreater(seen[name, -30], 3, name)
        for name, code in (
            ("create", -22), ("set_reward", -2), ("set_reward", -22), ("set_rewards", -22), ("shape_rewards", -22),
            ("scale_rewards", -22), ("set_transition", -22), ("set_deterministic", -22), ("potentials", -33),
            ("equivalence_factor", -33), ("add_guarantee", -22), ("add_guarantee", -17), ("add_guarantee", -30),
            ("add_guarantee", -28), ("remove_guarantee", -2), ("get_guarantee", -2), ("check_guarantee", -22),
            ("run_episode", -2), ("run_episode", -22), ("preview_episode", -22), ("get_episode", -2),
            ("corrected_return", -33),
        ):
            self.assertGreater(seen[name, code], 0, (name, code))

    def test_requests_over_four_states(self):
        self.check(range(1000, 1012), 30, 4)

    def test_what_is_handed_in_stays_and_answers_the_same_again(self):
        for seed in range(40):
            with self.subTest(seed=seed):
                handed = told(Drawn(seed, 4).calls(60))
                kept = list(handed)
                first = answers(handed)
                self.assertEqual(handed, kept)
                self.assertEqual(answers(handed), first)
                self.assertEqual(handed, kept)
                self.assertEqual({type(number) for number in first}, {int})


if __name__ == "__main__":
    unittest.main()
