"""The state of a group: what a list of records means (points 36 and 37)."""

from meridian.ledger.cells import Cells


class State:
    """A floor, a cell store, the held transactions and the outcomes."""

    def __init__(self):
        self.cells = Cells()
        self._floor = 0
        self._held = {}
        self._outcomes = {}

    @property
    def floor(self):
        return self._floor

    @property
    def settled(self):
        return min([self._floor] + [time - 1 for time, _, _, _ in self._held.values()])

    def apply(self, record):
        """Apply a record, and return whether it was applicable."""
        if record[0] == "floor":
            return self._apply_floor(record[1])
        if record[0] == "prepare":
            return self._apply_prepare(record)
        return self._apply_outcome(record[1], record[2])

    def held(self, txn):
        """Return the time, the lead, the reads and the writes of a held transaction, or None."""
        return self._held.get(txn)

    def all_held(self):
        """Return the numbers of all held transactions."""
        return sorted(self._held)

    def outcome(self, txn):
        """Return the outcome of a transaction, or None if there is none."""
        return self._outcomes.get(txn)

    def all_outcomes(self):
        """Return the pairs (txn, outcome) of all transactions that have an outcome."""
        return [(txn, self._outcomes[txn]) for txn in sorted(self._outcomes)]

    def conflicts(self, reads, writes):
        """Return the numbers of the held transactions with which reads and writes conflict."""
        written = [key for key, _ in writes]
        touched = list(reads) + written
        found = []
        for txn in self.all_held():
            _, _, held_reads, held_writes = self._held[txn]
            held_written = [key for key, _ in held_writes]
            if _have_common(held_written, touched) or _have_common(held_reads, written):
                found.append(txn)
        return found

    def blockers(self, key, time):
        """Return the numbers of the held transactions that block a key at a time."""
        writers = self.conflicts((key,), ())
        return [txn for txn in writers if self._held[txn][0] <= time]

    def twin(self):
        """Return another state that means the same."""
        other = State()
        other.cells = self.cells.twin()
        other._floor = self._floor
        other._held = dict(self._held)
        other._outcomes = dict(self._outcomes)
        return other

    def _apply_floor(self, time):
        if time <= self._floor:
            return False
        self._floor = time
        return True

    def _apply_prepare(self, record):
        _, txn, time, lead, reads, writes = record
        if txn in self._held or txn in self._outcomes or time <= self._floor:
            return False
        if self.conflicts(reads, writes) != []:
            return False
        self._held[txn] = (time, lead, reads, writes)
        self._floor = time
        return True

    def _apply_outcome(self, txn, time):
        """Apply a decide or done record."""
        if txn in self._outcomes:
            return False
        if time > 0:
            if txn not in self._held or self._held[txn][0] > time:
                return False
            self.cells.put(time, self._held[txn][3])
            self._floor = max(self._floor, time)
        self._outcomes[txn] = time
        self._held.pop(txn, None)
        return True


def state_of(records):
    """Return the state of a list of records."""
    state = State()
    for record in records:
        state.apply(record)
    return state


def _have_common(keys, others):
    return len([key for key in keys if key in others]) > 0
