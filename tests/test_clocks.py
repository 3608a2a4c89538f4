"""Points 8 and 10: clocks."""

import unittest

from meridian.clocks.clocks import Clock
from meridian.clocks.spans import Span
from meridian.errors import BadArgument
from tests.helpers import dice, error_of

FAR = 10 ** 59 + 11
BOUNDS = list(range(41)) + [10 ** 18, FAR]


def offsets_of(bound):
    offsets = {-bound, -bound + 1, -1, 0, 1, bound // 2, bound - 1, bound}
    return sorted(offset for offset in offsets if -bound <= offset <= bound)


def ends_of(span):
    return span.low, span.high


class ClockTest(unittest.TestCase):

    def test_a_new_clock(self):
        for bound in BOUNDS:
            clock = Clock(bound)
            self.assertEqual((clock.bound, clock.offset), (bound, 0))
            self.assertEqual(ends_of(clock.span(0)), (-bound, bound))

    def test_a_negative_bound(self):
        for bound in (-1, -2, -40, -FAR):
            self.assertIs(error_of(Clock, bound), BadArgument)

    def test_examples(self):
        clock = Clock(5)
        clock.drift(2)
        span = clock.span(100)
        self.assertEqual(ends_of(span), (97, 107))
        self.assertTrue(span.is_past(96))
        self.assertFalse(span.is_past(97))
        self.assertTrue(span.is_ahead(108))
        self.assertFalse(span.is_ahead(107))
        clock = Clock(5)
        clock.drift(-1)
        self.assertEqual(clock.wait_for(10, now=10), 7)

    def test_spans_after_each_drift(self):
        source = dice(8)
        for bound in BOUNDS:
            clock = Clock(bound)
            for _ in range(12):
                offset = source.choice(offsets_of(bound))
                self.assertIsNone(clock.drift(offset))
                self.assertEqual((clock.bound, clock.offset), (bound, offset))
                for now in (0, 1, 7, 10 ** 30, FAR):
                    span = clock.span(now)
                    self.assertIsInstance(span, Span)
                    self.assertEqual(ends_of(span), (now + offset - bound, now + offset + bound))
                    self.assertIn(now, span)

    def test_offsets_out_of_the_bound_change_nothing(self):
        for bound in BOUNDS:
            clock = Clock(bound)
            for offset in offsets_of(bound):
                clock.drift(offset)
                for wrong in (bound + 1, -bound - 1, bound + 2, -bound - 2, 2 * bound + 1, 10 ** 60, -10 ** 60):
                    self.assertIs(error_of(clock.drift, wrong), BadArgument)
                    self.assertEqual((clock.bound, clock.offset), (bound, offset))

    def test_negative_true_times(self):
        for bound in (0, 5, FAR):
            clock = Clock(bound)
            for now in (-1, -2, -FAR):
                self.assertIs(error_of(clock.span, now), BadArgument)
                self.assertIs(error_of(clock.wait_for, 3, now=now), BadArgument)
                self.assertIs(error_of(clock.wait_for, -FAR, now=now), BadArgument)
            self.assertIsNone(error_of(clock.span, 0))
            self.assertEqual(clock.wait_for(-bound, now=0), 1)

    def test_the_wait_is_the_least_one(self):
        for bound in BOUNDS:
            clock = Clock(bound)
            for offset in offsets_of(bound):
                clock.drift(offset)
                for now in (0, 3, FAR):
                    low = now + offset - bound
                    for time in [low + step for step in (-5, -2, -1, 0, 1, 2, 30)] + [0, now, 2 * FAR, -FAR]:
                        self.check_wait(clock, time, now)
                self.assertEqual((clock.bound, clock.offset), (bound, offset))

    def check_wait(self, clock, time, now):
        wait = clock.wait_for(time, now=now)
        self.assertGreaterEqual(wait, 0)
        self.assertTrue(clock.span(now + wait).is_past(time))
        if wait > 0:
            self.assertFalse(clock.span(now + wait - 1).is_past(time))

    def test_clocks_are_independent(self):
        first, second = Clock(3), Clock(3)
        first.drift(3)
        self.assertEqual(second.offset, 0)
        self.assertEqual(ends_of(second.span(4)), (1, 7))


if __name__ == "__main__":
    unittest.main()
