"""Feeds, which deliver all changes of committed transactions (point 56)."""

from meridian.views.snapshots import best_cells, settled_time


class Feed:
    """A time up to which all changes have been delivered."""

    def __init__(self):
        self._done = 0

    @property
    def done(self):
        return self._done

    def pull(self, cluster):
        """Return the changes (time, key, value) up to the settled time that were not delivered before."""
        upto = settled_time(cluster)
        # A group that is down has no best replica, but then nothing is settled.
        if upto <= self._done:
            return []
        changes = []
        for group in range(cluster.fabric.groups):
            changes.extend(best_cells(cluster, group).changes(self._done, upto))
        self._done = upto
        return sorted(changes)
