"""The times of transactions and readers (point 41)."""


def prepare_time(floor, promised):
    """Return the prepare time for a floor and a promised time."""
    return max(floor, promised) + 1


def commit_time(times, span):
    """Return the commit time for a list of prepare times and a span."""
    return max(max(times), span.high)


def may_tell(span, time):
    """Return whether a commit time may be told to a client."""
    return span.is_past(time)


def look_time(span):
    """Return the look time for a span."""
    return max(1, span.high)
