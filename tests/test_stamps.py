"""Point 41: timestamps."""

import unittest

from meridian.clocks.spans import Span
from meridian.deals.stamps import commit_time, look_time, may_tell, prepare_time

FAR = 10 ** 40


class StampsTest(unittest.TestCase):

    def test_prepare_time(self):
        for floor, promised, time in [(0, 0, 1), (5, 4, 6), (5, 5, 6), (5, 6, 7), (0, 9, 10), (9, 0, 10), (FAR, 3, FAR + 1)]:
            self.assertEqual(prepare_time(floor, promised), time)

    def test_commit_time(self):
        for times, high, time in [([5], 4, 5), ([5], 5, 5), ([5], 6, 6), ([5, 9, 7], 8, 9), ([9, 5], 10, 10), ([1], -4, 1),
                                  ([3, FAR], 8, FAR), ([3], FAR, FAR)]:
            before = list(times)
            self.assertEqual(commit_time(times, Span(high - 6, high)), time)
            self.assertEqual(times, before)

    def test_may_tell(self):
        for low, time, answer in [(5, 4, True), (5, 5, False), (5, 6, False), (5, 0, True), (-5, 0, False), (FAR, FAR - 1, True)]:
            self.assertIs(may_tell(Span(low, low + 8), time), answer)

    def test_look_time(self):
        for high, time in [(2, 2), (1, 1), (0, 1), (-1, 1), (-FAR, 1), (FAR, FAR)]:
            self.assertEqual(look_time(Span(high - 3, high)), time)


if __name__ == "__main__":
    unittest.main()
