"""Lines made by chance, always the same ones, answered by the program as by the slow model."""

import unittest

from tests.chance import line_with_answers
from tests.helper import said


class ModelTest(unittest.TestCase):
    def compare(self, seeds, lights, step, length):
        seen = set()
        for seed in seeds:
            calls, wanted = line_with_answers(seed, lights, step, length)
            told = said(calls)
            for k, call in enumerate(calls):
                self.assertEqual(told[k], wanted[k], f"seed {seed}, call {k}: {call}")
            seen |= {(call[0], min(answer[0], 1)) for call, answer in zip(calls, wanted)}
        return seen

    def test_short_times(self):
        seen = self.compare(range(60), [0, 1, 2, 5, 10, 50], 6, 500)
        # The comparison is worth something only if nearly every answer comes up.
        for pair in ((1, -28), (3, -12), (3, -17), (4, -12), (4, -16), (4, -17), (4, -61), (6, 1), (7, 0), (7, -12),
                     (7, -16), (7, -17), (7, -61), (8, 0), (8, -12), (8, -61), (9, -16), (9, -28), (10, 1), (10, -12),
                     (10, -15), (10, -16), (10, -17), (10, -33), (11, 0), (11, 1), (11, -15), (12, 1), (12, -12),
                     (12, -13), (12, -16), (12, -17), (12, -61), (13, 1), (13, -2), (13, -6), (13, -12), (13, -22),
                     (14, 0), (14, -2), (14, -15), (15, -2), (15, -6), (15, -22), (15, 1), (16, -2), (16, -22), (16, 1),
                     (17, -2), (17, -33), (17, 1), (18, -2), (18, 1), (19, 1), (20, 1), (21, 0), (21, 1), (21, -71),
                     (22, 1), (22, -71), (22, -75), (23, 1), (23, -2), (24, 1)):
            self.assertIn(pair, seen)

    def test_long_times(self):
        self.compare(range(100, 115), [0, 1, 7, 100, 5000, 10000], 120, 400)


if __name__ == "__main__":
    unittest.main()
