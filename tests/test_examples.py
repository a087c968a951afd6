"""The document's examples, row by row."""

import unittest

from tests.helper import ask


class Examples(unittest.TestCase):
    def test_the_rows_in_their_order(self):
        rows = [
            (("create", 2, 2, 1, 2), [8]),
            (("set_deterministic", [0, 1, 1, 0]), [0]),
            (("set_reward", 0, 0, 1, 1, [4]), [0, 0]),
            (("copy_rewards", 1), [0]),
            (("add_guarantee", 0, 0), [0]),
            (("set_reward", 1, 0, 0, 0, [1]), [-30]),
            (("shape_rewards", 1, [1, 0]), [0]),
            (("potentials",), [2, 2, 1, 0, 1]),
            (("set_transition", 0, 1, [1, 3]), [4]),
            (("run_episode", 0, 0, [300]), [1, 4, 1, 2, 1, 1, 1]),
            (("corrected_return", 0), [0, 4, 1]),
            (("least_regret_bound",), [0]),
            (("get_episode", 1), [-2]),
        ]
        for count in range(1, len(rows)):
            self.assertEqual(ask(*[call for call, answer in rows[:count]]), [answer for call, answer in rows[:count]])
        self.assertEqual(ask(*[call for call, answer in rows]), [answer for call, answer in rows])


if __name__ == "__main__":
    unittest.main()
