"""Cell stores: the versions of the values of keys (point 35)."""

from meridian.errors import BadArgument, Refused


class Cells:
    """For each of some keys a list of versions, which are pairs (time, value) with ascending times."""

    def __init__(self):
        self._versions = {}

    def put(self, time, writes):
        """Add a version with this time to each key of the writes."""
        if time < 1:
            raise BadArgument("the time of a version must be 1 or more")
        for key, _ in writes:
            if time <= self.last_time(key):
                raise Refused("a key has a version with this time or a later one")
        for key, value in writes:
            self._versions.setdefault(key, []).append((time, value))

    def value_at(self, key, time):
        """Return the value of a key at a time."""
        found = None
        for moment, value in self._versions.get(key, ()):
            if moment > time:
                break
            found = value
        return found

    def last_value(self, key):
        """Return the value of the last version of a key, or None if there is none."""
        if key not in self._versions:
            return None
        return self._versions[key][-1][1]

    def last_time(self, key):
        """Return the time of the last version of a key, or 0 if there is none."""
        if key not in self._versions:
            return 0
        return self._versions[key][-1][0]

    def versions(self, key):
        """Return the versions of a key."""
        return list(self._versions.get(key, ()))

    def rows_at(self, time):
        """Return the pairs (key, value) of all keys that have a value at a time."""
        rows = [(key, self.value_at(key, time)) for key in sorted(self._versions)]
        return [(key, value) for key, value in rows if value is not None]

    def __iter__(self):
        return iter(self._versions)

    def __contains__(self, key):
        return key in self._versions

    def __len__(self):
        return len(self._versions)

    def changes(self, after, upto):
        """Return tuples (time, key, value) for the versions with a time after one time and up to another."""
        found = []
        for key, versions in self._versions.items():
            found.extend([(time, key, value) for time, value in versions if after < time <= upto])
        return sorted(found)

    def trim(self, time):
        """Remove what does not matter for the values at this time and at later ones."""
        for key in list(self._versions):
            left = _left_from(self._versions[key], time)
            if len(left) == 1 and left[0][1] is None and left[0][0] <= time:
                del self._versions[key]
            else:
                self._versions[key] = left

    def twin(self):
        """Return another cell store with the same versions."""
        other = Cells()
        other._versions = {key: list(versions) for key, versions in self._versions.items()}
        return other


def _left_from(versions, time):
    """Return the versions from the last one on that is not later than a time."""
    early = [moment for moment, _ in versions if moment <= time]
    return versions[max(0, len(early) - 1):]
