"""Spans of time (point 9)."""

from meridian.errors import BadArgument


class Span:
    """The times from low to high, both included."""

    def __init__(self, low, high):
        if low > high:
            raise BadArgument("the low end of a span must not be greater than its high end")
        self.low = low
        self.high = high

    def __contains__(self, time):
        return self.low <= time <= self.high

    def is_past(self, time):
        """Return whether the time is surely past."""
        return time < self.low

    def is_ahead(self, time):
        """Return whether the time is surely ahead."""
        return time > self.high

    def is_before(self, other):
        """Return whether this span is surely before another one."""
        return self.high < other.low


def common_span(spans):
    """Return the common part of a list of spans, or None if there is none."""
    if not spans:
        raise BadArgument("the common part of no spans is not defined")
    low = max([span.low for span in spans])
    high = min([span.high for span in spans])
    if low > high:
        return None
    return Span(low, high)
