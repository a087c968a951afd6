"""The rows of the document's examples that need calls 0 to 12 alone."""

import unittest

from tests.helper import ask


class Examples(unittest.TestCase):
    def test_the_rows_in_their_order(self):
        rows = [
            (("create", 2, 2, 1, 2), [8]),
            (("set_deterministic", [0, 1, 1, 0]), [0]),
            (("set_reward", 0, 0, 1, 1, [4]), [0, 0]),
            (("copy_rewards", 1), [0]),
            (("shape_rewards", 1, [1, 0]), [0]),
            (("potentials",), [2, 2, 1, 0, 1]),
            (("set_transition", 0, 1, [1, 3]), [4]),
        ]
        self.assertEqual(ask(*[call for call, answer in rows]), [answer for call, answer in rows])


if __name__ == "__main__":
    unittest.main()
