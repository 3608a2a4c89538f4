"""Replicas in the states that tests need."""

from meridian.clocks.spans import Span
from meridian.quorum.replicas import Replica

NOW = Span(100, 110)
A, B, C, D = ("floor", 5), ("floor", 6), ("decide", 3, 0), ("prepare", 1, 8, 0, ("a",), (("b", 1),))


def replica_with(term=0, log=(), *, vote=-1, promise=0, base=10, size=3, me=0):
    """Return a follower with a synced journal."""
    replica = Replica(base, size, me)
    replica.journal.set_ballot(term, vote)
    replica.journal.make_promise(promise)
    for index, (entry_term, record) in enumerate(log):
        replica.journal.put_entry(index, entry_term, record)
    replica.journal.sync()
    return replica


def candidate_with(term=1, log=(), *, base=10, size=3, me=0, safe=True, span=NOW):
    """Return a candidate of a term; its outbox is empty if its own vote is safe."""
    replica = replica_with(term - 1, log, base=base, size=size, me=me)
    replica.stand(span)
    if safe:
        replica.flush(span)
    return replica


def leader_with(term=1, log=(), *, base=10, size=3, me=0, span=NOW):
    """Return a leader whose opening record is not synced yet and whose outbox is empty."""
    replica = candidate_with(term, log, base=base, size=size, me=me, span=span)
    for other in others_of(replica)[:size // 2]:
        replica.receive(other, ("give_vote", term), span)
    return replica


def others_of(replica):
    """Return the addresses of the other replicas of the group."""
    return [to for to in range(replica.base, replica.base + replica.size) if to != replica.address]


def view(replica):
    """Return what can be seen of a replica."""
    journal = replica.journal
    return {
        "role": replica.role, "sure": replica.sure, "sure_entries": replica.sure_entries(),
        "outbox": replica.outbox(), "lease_end": replica.lease_end, "term": replica.term,
        "ballot": (journal.term, journal.vote), "promise": journal.promise, "log": journal.entries(),
        "safe": (journal.safe_ballot, journal.safe_promise, journal.safe_length),
        "loose": journal.loose_size, "notes": journal.notes(),
    }


def changes(replica, act, *args, **named):
    """Return what a call returns, and the parts of the view that it changes, with their new values."""
    before = view(replica)
    answer = act(*args, **named)
    after = view(replica)
    return answer, {name: after[name] for name in after if after[name] != before[name]}
