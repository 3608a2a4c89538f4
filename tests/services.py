"""Services in the states that tests need."""

from meridian.clocks.spans import Span
from meridian.deals.service import Service
from tests.groups import NOW, leader_with, others_of, replica_with, view

SENDER = 99

# The clock of a leader when it is elected; its opening record is a floor record with this high.
BEGIN = Span(10, 20)


def make_sure(replica, span=NOW):
    """Sync a leader's log, and let all others have it."""
    replica.flush(span)
    for other in others_of(replica):
        replica.receive(other, ("appended", replica.term, len(replica.journal)), span)


def service_with(sure=(), full=(), *, term=2, base=3, size=3):
    """Return a ready leader and its service; some records are sure, and some more stand in its log."""
    replica = leader_with(term, base=base, size=size, span=BEGIN)
    for record in sure:
        replica.propose(record)
    make_sure(replica)
    replica.flush(NOW)
    for record in full:
        replica.propose(record)
    return replica, Service(replica)


def unready_services():
    """Return pairs (replica, service) of replicas that are not ready leaders, though their logs are full."""
    log = [(1, ("floor", 5)), (1, prepare(1, 6, "a", "b")), (1, ("decide", 8, 0))]
    follower = replica_with(2, log, base=3)
    follower.receive(4, ("append", 2, 3, 1, ((2, ("floor", 7)),), 4), NOW)
    candidate = replica_with(1, log, base=3)
    candidate.stand(NOW)
    candidate.flush(NOW)
    leader = leader_with(2, log, base=3)
    old = leader_with(3, base=3)
    make_sure(old)
    old.receive(4, ("append", 4, 1, 3, ((3, ("floor", 900)), (3, log[1][1])), 3), NOW)
    old.stand(NOW)
    old.flush(NOW)
    old.receive(5, ("give_vote", 5), NOW)
    old.flush(NOW)
    return [(replica, Service(replica)) for replica in (follower, candidate, leader, old)]


def prepare(txn, time, reads="", writes="", lead=1):
    """Return a prepare record that reads and writes keys of one character each."""
    return ("prepare", txn, time, lead, tuple(reads), tuple((key, 10 * txn) for key in writes))


def service_view(replica, service):
    """Return what can be seen of a service and its replica."""
    found = view(replica)
    found.update(locks=service.locks(), shut=service.shut(), promised=service.promised())
    return found


def effect(replica, service, act, *args):
    """Return what a call returns and what it changes; of the outbox and the log what it adds to them."""
    before = service_view(replica, service)
    answer = act(*args)
    after = service_view(replica, service)
    changed = {name: after[name] for name in after if after[name] != before[name]}
    for name in ("notes", "loose"):
        changed.pop(name, None)
    for name in ("outbox", "log"):
        if name in changed:
            many = len(before[name])
            if after[name][:many] != before[name]:
                raise AssertionError(name + " was cut")
            changed[name] = changed[name][many:]
    if "log" in changed:
        changed["log"] = [record for _, record in changed["log"]]
    return answer, changed


def take_locks(replica, service, *requests):
    """Let transactions read keys, and forget the answers."""
    for txn, key in requests:
        service.handle(SENDER, ("read", txn, key, 0), NOW)
    replica.flush(NOW)


def give_write_lock(service, key, txn):
    """Give a transaction a lock for writing, which no letter does; but a service must mind such a lock, too."""
    service._present().table.take(key, txn, write=True)
