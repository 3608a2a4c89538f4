"""The service of a replica, which answers clients while the replica is leader (points 42 to 44)."""

from meridian.deals.stamps import commit_time, may_tell, prepare_time
from meridian.deals.tenures import Tenure
from meridian.ledger.keepers import StateKeeper
from meridian.quorum.replicas import LEADER


class Service:
    """Reads, prepares and decides transactions at a leader."""

    def __init__(self, replica):
        self._replica = replica
        self._group = replica.base // replica.size
        self._sure = StateKeeper()
        self._full = StateKeeper()
        self._tenure = Tenure(replica.tenures)

    @property
    def is_ready(self):
        # Terms never decrease in a log, so the last sure entry has the leader's term if any of them has.
        replica = self._replica
        if replica.role != LEADER or replica.sure == 0:
            return False
        return replica.journal.entry(replica.sure - 1)[0] == replica.term

    def sure_state(self):
        """Return the state of the records of the sure entries."""
        return self._sure.state_after(self._replica.sure_entries())

    def full_state(self):
        """Return the state of all records in the log."""
        return self._full.state_after(self._replica.journal.entries())

    def locks(self):
        """Return the locks of the present tenure."""
        if self._replica.role != LEADER:
            return []
        return self._present().table.locks()

    def shut(self):
        """Return the shut transactions of the present tenure."""
        if self._replica.role != LEADER:
            return []
        return self._present().all_shut()

    def promised(self):
        """Return the promised time of the present tenure."""
        if self._replica.role != LEADER:
            return 0
        return self._present().promised_time

    def handle(self, sender, letter, span):
        """Handle a client letter."""
        if not self.is_ready:
            return
        name = letter[0]
        if name == "read":
            self._handle_read(sender, letter)
        elif name == "prepare":
            self._handle_prepare(sender, letter)
        elif name == "commit":
            self._handle_commit(sender, letter, span)
        elif name == "query":
            self._handle_query(sender, letter)
        elif name == "told":
            self._handle_told(letter)
        elif name == "look":
            self._handle_look(sender, letter)

    def close(self, span):
        """Log a floor record, and return whether this was possible."""
        if not self.is_ready:
            return False
        self._log(("floor", max(self.full_state().floor + 1, span.high)))
        return True

    def ask(self, txn):
        """Try to be rid of a transaction, and return whether this was possible."""
        if not self.is_ready:
            return False
        tenure = self._present()
        held = self.full_state().held(txn)
        if tenure.table.free(txn) > 0:
            tenure.shut_out(txn)
        elif held is None:
            return False
        elif held[1] == self._group:
            self._log(("decide", txn, 0))
        else:
            self._query_group(held[1], txn)
        return True

    def _present(self):
        """Return the present tenure."""
        if self._tenure.ordinal != self._replica.tenures:
            self._tenure = Tenure(self._replica.tenures)
        return self._tenure

    def _answer(self, sender, letter):
        self._replica.post(sender, letter)

    def _log(self, record):
        self._replica.propose(record)

    def _query_group(self, group, txn):
        size = self._replica.size
        for to in range(group * size, (group + 1) * size):
            self._replica.post(to, ("query", txn))

    def _is_too_late(self, txn, term):
        """Return whether a transaction counts on a lock table that is gone, or is shut."""
        return term not in (0, self._replica.term) or self._present().is_shut(txn)

    def _lacks_lock(self, txn, keys):
        """Return whether a transaction has no lock on one of the keys."""
        table = self._present().table
        return len([key for key in keys if not table.holds(key, txn)]) > 0

    def _handle_read(self, sender, letter):
        _, txn, key, term = letter
        sure, full = self.sure_state(), self.full_state()
        if self._is_too_late(txn, term) or full.outcome(txn) is not None:
            self._answer(sender, ("refuse", txn))
            return
        if _hinders_read(sure, txn, key) or _hinders_read(full, txn, key):
            return
        tenure = self._present()
        decision, victims = tenure.table.decide(key, txn)
        if decision == "wait":
            return
        for victim in victims:
            tenure.shut_out(victim)
        tenure.table.take(key, txn)
        self._answer(sender, ("value", txn, key, sure.cells.last_value(key), self._replica.term))

    def _handle_prepare(self, sender, letter):
        _, txn, term, _, reads, writes = letter
        sure, full = self.sure_state(), self.full_state()
        outcome, held = full.outcome(txn), full.held(txn)
        if outcome is not None:
            if outcome == 0:
                self._answer(sender, ("refuse", txn))
        elif held is not None:
            if sure.held(txn) is not None:
                self._answer(sender, ("prepared", txn, self._group, held[0]))
        elif self._is_too_late(txn, term) or self._lacks_lock(txn, reads):
            self._answer(sender, ("refuse", txn))
        elif sure.conflicts(reads, writes) == [] and full.conflicts(reads, writes) == []:
            self._log_prepare(letter)

    def _log_prepare(self, letter):
        """Log the prepare record, unless the transaction must wait for a write lock."""
        _, txn, _, lead, reads, writes = letter
        tenure = self._present()
        decisions = [tenure.table.decide(key, txn, write=True) for key, _ in writes]
        if ("wait", ()) in decisions:
            return
        for _, victims in decisions:
            for victim in victims:
                tenure.shut_out(victim)
        time = prepare_time(self.full_state().floor, tenure.promised_time)
        self._log(("prepare", txn, time, lead, reads, writes))
        # From now on the held transaction itself keeps others away from its keys.
        tenure.table.free(txn)

    def _handle_commit(self, sender, letter, span):
        _, txn, times = letter
        sure = self.sure_state()
        outcome, held = sure.outcome(txn), sure.held(txn)
        if outcome is not None:
            if outcome == 0 or may_tell(span, outcome):
                self._answer(sender, ("outcome", txn, outcome))
        elif held is not None and self.full_state().outcome(txn) is None:
            prepared = [time for _, time in times] + [held[0]]
            self._log(("decide", txn, commit_time(prepared, span)))

    def _handle_query(self, sender, letter):
        txn = letter[1]
        outcome = self.sure_state().outcome(txn)
        if outcome is not None:
            self._answer(sender, ("told", txn, outcome))
        elif self.full_state().outcome(txn) is None:
            self._log(("decide", txn, 0))

    def _handle_told(self, letter):
        _, txn, time = letter
        if self.sure_state().held(txn) is not None and self.full_state().held(txn) is not None:
            self._log(("done", txn, time))

    def _handle_look(self, sender, letter):
        _, reader, key, time = letter
        if time > self._replica.lease_end:
            return
        sure, full = self.sure_state(), self.full_state()
        if sure.blockers(key, time) != [] or full.blockers(key, time) != []:
            return
        self._present().promise_look(time)
        self._answer(sender, ("seen", reader, key, sure.cells.value_at(key, time)))


def _hinders_read(state, txn, key):
    """Return whether a transaction is held in a state, or another one that writes the key."""
    return state.held(txn) is not None or state.conflicts((key,), ()) != []
