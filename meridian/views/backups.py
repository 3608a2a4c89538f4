"""Backups: the rows of a cluster at one time (points 57 and 59)."""

from meridian.deals.programs import put_rows
from meridian.errors import BadArgument, BadBytes
from meridian.views.snapshots import snapshot
from meridian.wire.rows import decode_rows, encode_rows
from meridian.wire.seals import open_seal, seal
from meridian.wire.varints import decode_number, encode_number


class Backup:
    """A time, and rows (key, number) with ascending keys."""

    def __init__(self, time, rows):
        if time < 0:
            raise BadArgument("the time of a backup must not be negative")
        # Encoded only because that finds every wrong key and every wrong order.
        encode_rows(rows)
        self._moment = time
        self._rows = tuple(rows)

    @property
    def moment(self):
        return self._moment

    def rows(self):
        """Return the rows."""
        return list(self._rows)

    def advanced(self, changes, upto):
        """Return the backup after changes (time, key, value) up to a time."""
        if upto < self._moment:
            raise BadArgument("a backup cannot go back in time")
        _check_changes(changes, self._moment, upto)
        rows = put_rows(dict(self._rows), [(key, value) for _, key, value in changes])
        return Backup(upto, [(key, rows[key]) for key in sorted(rows)])

    def pack(self):
        """Return the block of the backup."""
        return seal(encode_number(self._moment) + encode_rows(self._rows))

    @classmethod
    def unpack(cls, block):
        """Return the backup whose block this is."""
        inner = open_seal(block)
        time, start = decode_number(inner, 0)
        rows, behind = decode_rows(inner, start)
        if behind < len(inner):
            raise BadBytes("there are bytes behind the rows of the backup")
        return cls(time, rows)

    @staticmethod
    def taken(cluster, time):
        """Return the backup of the snapshot of a cluster at a time."""
        # There is a snapshot at every negative time, so that only the new backup refuses it.
        return Backup(time, snapshot(cluster, time))


def _check_changes(changes, after, upto):
    """Raise BadArgument unless the changes are ordered by time and key, and no time is out of range."""
    places = [(time, key) for time, key, _ in changes]
    for place, following in zip(places, places[1:]):
        if place >= following:
            raise BadArgument("the changes must be ascending by time and then by key")
    for time, _ in places:
        if time <= after or time > upto:
            raise BadArgument("the time of a change is not one between the two backups")
