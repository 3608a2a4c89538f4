"""What a service keeps as long as its replica leads (point 42)."""

from meridian.deals.locks import LockTable


class Tenure:
    """A lock table, the shut transactions, and a promised time."""

    def __init__(self, ordinal):
        self.ordinal = ordinal
        self.table = LockTable()
        self.promised_time = 0
        self._shut = {}

    def shut_out(self, txn):
        """Shut a transaction."""
        self.table.free(txn)
        self._shut[txn] = True

    def is_shut(self, txn):
        """Return whether a transaction is shut."""
        return txn in self._shut

    def all_shut(self):
        """Return the shut transactions."""
        return sorted(self._shut)

    def promise_look(self, time):
        """Let no later prepare time be at this time or below it."""
        self.promised_time = max(self.promised_time, time)
