"""Clocks of bounded uncertainty (points 8 and 10)."""

from meridian.clocks.spans import Span
from meridian.errors import BadArgument


class Clock:
    """A clock that shows the true time plus an offset, which is at most as great as its bound."""

    def __init__(self, bound):
        if bound < 0:
            raise BadArgument("the bound of a clock must not be negative")
        self.bound = bound
        self.offset = 0

    def drift(self, offset):
        """Give the clock another offset."""
        if offset < -self.bound or offset > self.bound:
            raise BadArgument("the offset must be from -bound to bound")
        self.offset = offset

    def span(self, now):
        """Return the span of the clock at a true time."""
        _check_true_time(now)
        shown = now + self.offset
        return Span(shown - self.bound, shown + self.bound)

    def wait_for(self, time, *, now):
        """Return the least wait after which the time is surely past, if the offset stays."""
        low = self.span(now).low
        return max(0, time + 1 - low)


def _check_true_time(now):
    if now < 0:
        raise BadArgument("a true time must not be negative")
