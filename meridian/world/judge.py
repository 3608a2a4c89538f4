"""The judge of histories, which are lists of deeds (name, number, begin, end, time, got, writes) (point 54)."""

from meridian.deals.programs import put_rows
from meridian.errors import BadArgument

MOST_DEEDS = 7


def time_order(deeds):
    """Return the order of all deeds by time; at equal times transactions stand before readers."""
    places = []
    for index, (name, _, _, _, time, _, _) in enumerate(deeds):
        places.append((time, 0 if name == "txn" else 1, index))
    return [index for _, _, index in sorted(places)]


def replay(deeds, order):
    """Return the rows after the deeds of an order, or None if a value that was read is not right."""
    rows = {}
    for index in order:
        _, _, _, _, _, got, writes = deeds[index]
        for key, value in got:
            if rows.get(key) != value:
                return None
        rows = put_rows(rows, writes)
    return rows


def respects(deeds, order):
    """Return whether an order respects real time."""
    for place, index in enumerate(order):
        for later in order[place + 1:]:
            if _ended_before(deeds[later], deeds[index]):
                return False
    return True


def times_agree(deeds):
    """Return whether the times of the deeds agree with real time."""
    for deed in deeds:
        for other in deeds:
            if _ended_before(deed, other) and deed[4] >= other[4]:
                return False
    return True


def is_consistent(deeds):
    """Return whether the time order explains every read, and the times agree with real time."""
    return replay(deeds, time_order(deeds)) is not None and times_agree(deeds)


def find_order(deeds):
    """Return the least order of all deeds that respects real time and can be replayed, or None."""
    if len(deeds) > MOST_DEEDS:
        raise BadArgument("there are too many deeds to try all orders")
    return _least_order_from(deeds, [])


def seen_by(deeds, index):
    """Return for each value that a deed has read the index of the deed whose write it must have seen, or None."""
    if index < 0 or index >= len(deeds):
        raise BadArgument("there is no deed with this index")
    writers = {}
    for other in time_order(deeds):
        if other == index:
            break
        for key, _ in deeds[other][6]:
            writers[key] = other
    return [writers.get(key) for key, _ in deeds[index][5]]


def _ended_before(deed, other):
    """Return whether a deed ended at a step less than the one at which another deed began."""
    return deed[3] is not None and deed[3] < other[2]


def _least_order_from(deeds, order):
    """Return the least order wanted that begins with some indexes, or None."""
    # What is wrong with a beginning stays wrong, whatever follows it.
    if not respects(deeds, order) or replay(deeds, order) is None:
        return None
    if len(order) == len(deeds):
        return order
    for index in range(len(deeds)):
        if index not in order:
            found = _least_order_from(deeds, order + [index])
            if found is not None:
                return found
    return None
