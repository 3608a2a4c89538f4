"""Locks, which make younger transactions wait for older ones (point 40)."""

from meridian.errors import Refused


class LockTable:
    """The locks of transactions on keys, no two of which conflict."""

    def __init__(self):
        # Whether the lock is for writing, for each pair (key, transaction) that has one.
        self._locks = {}

    def decide(self, key, txn, *, write=False):
        """Return the decision on a request, and the victims."""
        others = self._in_conflict(key, txn, write)
        if others == []:
            return ("grant", ())
        if others[0] < txn:
            return ("wait", ())
        return ("wound", tuple(others))

    def take(self, key, txn, *, write=False):
        """Give a lock to a transaction."""
        if self._in_conflict(key, txn, write) != []:
            raise Refused("the lock conflicts with a lock of another transaction")
        self._locks[(key, txn)] = write or self._locks.get((key, txn), False)

    def free(self, txn):
        """Remove all locks of a transaction, and return how many there were."""
        pairs = [(key, owner) for key, owner in self._locks if owner == txn]
        for pair in pairs:
            del self._locks[pair]
        return len(pairs)

    def holds(self, key, txn):
        """Return whether a transaction has a lock on a key."""
        return (key, txn) in self._locks

    def locks(self):
        """Return the tuples (key, txn, write) of all locks."""
        return sorted([(key, txn, write) for (key, txn), write in self._locks.items()])

    def __len__(self):
        return len(self._locks)

    def _in_conflict(self, key, txn, write):
        """Return the other transactions with whose locks a request conflicts, ascending."""
        found = []
        for (locked, owner), is_write in self._locks.items():
            if locked == key and owner != txn and (write or is_write):
                found.append(owner)
        return sorted(found)
