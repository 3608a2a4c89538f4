"""Point 9: spans."""

import unittest

from meridian.clocks.spans import Span, common_span
from meridian.errors import BadArgument
from tests.helpers import dice, error_of

FAR = 10 ** 59 + 7
ENDS = [(0, 0), (3, 3), (-3, 3), (5, 9), (-9, -5), (-1, 0), (-FAR, FAR), (FAR, FAR + 1), (-FAR - 2, -FAR)]


def ends_of(span):
    return None if span is None else (span.low, span.high)


class SpanTest(unittest.TestCase):

    def test_fields(self):
        for low, high in ENDS:
            span = Span(low, high)
            self.assertEqual((span.low, span.high), (low, high))

    def test_low_above_high(self):
        for low, high in [(1, 0), (0, -1), (-5, -6), (FAR + 1, FAR), (FAR, -FAR)]:
            self.assertIs(error_of(Span, low, high), BadArgument)

    def test_times_around_the_ends(self):
        for low, high in ENDS:
            span = Span(low, high)
            for time in {end + step for end in (low, high) for step in (-2, -1, 0, 1, 2)} | {0, FAR, -FAR}:
                self.assertIs(time in span, low <= time and time <= high)
                self.assertIs(time not in span, time < low or high < time)
                self.assertIs(span.is_past(time), time < low)
                self.assertIs(span.is_ahead(time), high < time)

    def test_is_before(self):
        for low, high in ENDS:
            span = Span(low, high)
            for width in (0, 1, 4):
                self.assertIs(span.is_before(Span(high + 1, high + 1 + width)), True)
                self.assertIs(span.is_before(Span(high, high + width)), False)
                self.assertIs(span.is_before(Span(high - 1, high - 1 + width)), False)
                self.assertIs(Span(low - 1 - width, low - 1).is_before(span), True)
                self.assertIs(Span(low - width, low).is_before(span), False)
            self.assertIs(span.is_before(span), False)
            self.assertIs(span.is_before(Span(low - 9, low - 8)), False)


class CommonSpanTest(unittest.TestCase):

    def test_written_out(self):
        self.assertEqual(ends_of(common_span([Span(1, 5)])), (1, 5))
        self.assertEqual(ends_of(common_span([Span(1, 5), Span(3, 9)])), (3, 5))
        self.assertEqual(ends_of(common_span([Span(1, 5), Span(5, 9)])), (5, 5))
        self.assertIsNone(common_span([Span(1, 5), Span(6, 9)]))
        self.assertIsNone(common_span([Span(6, 9), Span(1, 5)]))
        self.assertEqual(ends_of(common_span([Span(-9, 9), Span(2, 3), Span(0, 7)])), (2, 3))
        self.assertEqual(ends_of(common_span([Span(-FAR, FAR), Span(-FAR - 1, 0)])), (-FAR, 0))

    def test_no_spans(self):
        self.assertIs(error_of(common_span, []), BadArgument)

    def test_one_to_six_spans(self):
        source = dice(9)
        kinds = {True: 0, False: 0}
        for _ in range(600):
            ends = []
            for _ in range(source.randrange(1, 7)):
                low = source.randrange(-12, 9)
                ends.append((low, low + source.randrange(20)))
            spans = [Span(low, high) for low, high in ends]
            common = [time for time in range(-13, 30) if all(low <= time <= high for low, high in ends)]
            found = common_span(spans)
            self.assertEqual(ends_of(found), (common[0], common[-1]) if common else None)
            self.assertEqual([ends_of(span) for span in spans], ends)
            kinds[found is None] += 1
        self.assertTrue(min(kinds.values()) > 50)


if __name__ == "__main__":
    unittest.main()
