"""A cluster: a fabric with services, clients and readers (points 49 to 52)."""

from meridian.clients.clients import Client
from meridian.clients.phases import ENDED, WAITING
from meridian.clients.readers import Reader
from meridian.clients.routing import check_cuts
from meridian.deals.programs import check_program
from meridian.deals.service import Service
from meridian.errors import BadArgument
from meridian.ledger.keepers import StateKeeper
from meridian.net.letters import is_group_letter
from meridian.quorum.fabric import Fabric
from meridian.wire.rows import encode_keys
from meridian.world.visits import Visit


class Cluster:
    """Groups of replicas with their services, and a client or reader at each guest address."""

    def __init__(self, programs, lookups, *, cuts=(), size=3, bound=5):
        check_cuts(cuts)
        for program in programs:
            check_program(program)
        for keys in lookups:
            _check_lookup(keys)
        self.fabric = Fabric(len(cuts) + 1, size, bound, guests=len(programs) + len(lookups))
        self._cuts = tuple(cuts)
        self._clock_bound = bound
        self._steps = 0
        self._services = [Service(self.fabric.replica(node)) for node in range(self.fabric.nodes)]
        clients = [Client(index + 1, program, cuts) for index, program in enumerate(programs)]
        readers = [Reader(index, keys, cuts) for index, keys in enumerate(lookups)]
        first = self.fabric.nodes
        self._clients = [Visit(client, first + index) for index, client in enumerate(clients)]
        first += len(clients)
        self._readers = [Visit(reader, first + index) for index, reader in enumerate(readers)]
        self._chronicles = [[] for _ in range(self.fabric.groups)]
        self._keepers = [StateKeeper() for _ in range(self.fabric.groups)]

    @property
    def now(self):
        return self.fabric.now

    @property
    def nodes(self):
        return self.fabric.nodes

    @property
    def steps(self):
        return self._steps

    @property
    def cuts(self):
        """The cuts, as a tuple."""
        return self._cuts

    @property
    def clock_bound(self):
        """The bound of all clocks."""
        return self._clock_bound

    @property
    def many_clients(self):
        return len(self._clients)

    @property
    def many_readers(self):
        return len(self._readers)

    def client(self, index):
        """Return the client with an index."""
        return _item(self._clients, index, "client").guest

    def reader(self, index):
        """Return the reader with an index."""
        return _item(self._readers, index, "reader").guest

    def service(self, node):
        """Return the service of the replica with an address."""
        return _item(self._services, node, "node")

    def tick(self, by):
        """Let the true time pass."""
        return self._count(self.fabric.tick(by))

    def drift(self, address, offset):
        """Give the clock of an address another offset."""
        return self._count(self.fabric.drift(address, offset))

    def stand(self, node):
        """Let a replica stand."""
        return self._count(self.fabric.stand(node))

    def flush(self, node):
        """Flush a replica, and post what it sends."""
        if not self.fabric.flush(node):
            return False
        self._note_sure(node)
        return self._count(True)

    def deliver(self, index):
        """Take a packet from the network, and hand its letter to whom it is addressed."""
        if not _has(self.fabric.network, index):
            return False
        found = self.fabric.take(index)
        if found is not None:
            sender, to, letter = found
            if to < self.nodes:
                self._hand_to_node(sender, to, letter)
            elif not is_group_letter(letter):
                self._hand_to_guest(to, letter)
        return self._count(True)

    def lose(self, index):
        """Lose a packet."""
        return self._count(self.fabric.lose(index))

    def double(self, index):
        """Double a packet."""
        return self._count(self.fabric.double(index))

    def damage(self, index, at, add):
        """Damage a packet."""
        return self._count(self.fabric.damage(index, at, add))

    def crash(self, node, keep=0, last=None):
        """Let a replica crash."""
        return self._count(self.fabric.crash(node, keep, last))

    def restart(self, node):
        """Let a replica that is down come up again."""
        return self._count(self.fabric.restart(node))

    def send(self, node, to):
        """Let a leader send to another replica of its group."""
        return self._count(self.fabric.send(node, to))

    def lease(self, node, length):
        """Let a leader ask for a lease that lasts until some time after the high of its span."""
        return self._count(self.fabric.lease(node, length))

    def close(self, node):
        """Let a service close."""
        return self._count(self._is_running(node) and self._services[node].close(self.fabric.span(node)))

    def ask(self, node, txn):
        """Let a service ask about a transaction."""
        return self._count(self._is_running(node) and self._services[node].ask(txn))

    def push(self, client):
        """Push a client, and post its letters."""
        if not _has(self._clients, client):
            return False
        visit = self._clients[client]
        if visit.guest.phase == ENDED:
            return False
        self._post(visit.home, visit.guest.push())
        visit.note(self._steps + 1)
        return self._count(True)

    def look(self, reader):
        """Push a reader, and post its letters."""
        if not _has(self._readers, reader):
            return False
        visit = self._readers[reader]
        guest = visit.guest
        span = self.fabric.span(visit.home)
        if guest.phase == ENDED or (guest.phase == WAITING and not span.is_past(guest.time)):
            return False
        self._post(visit.home, guest.push(span))
        visit.note(self._steps + 1)
        return self._count(True)

    def chronicle(self, group):
        """Return the longest list of sure entries that a replica of a group ever had."""
        return list(_item(self._chronicles, group, "group"))

    def state(self, group):
        """Return the state of the records of a group's chronicle."""
        # The kept state is used again, so the caller gets another one.
        return self._state_of(group).twin()

    def committed(self):
        """Return the pairs (txn, time) of all committed transactions."""
        pairs = []
        for group in range(self.fabric.groups):
            pairs.extend(self._state_of(group).all_outcomes())
        return sorted(set([(txn, time) for txn, time in pairs if time > 0]))

    def span_of_client(self, client):
        """Return the steps at which a client began and ended."""
        visit = _item(self._clients, client, "client")
        return visit.begin, visit.end

    def span_of_reader(self, reader):
        """Return the steps at which a reader began and ended."""
        visit = _item(self._readers, reader, "reader")
        return visit.begin, visit.end

    def history(self):
        """Return the deeds: the committed transactions, and then the readers that have begun."""
        deeds = []
        for txn, time in self.committed():
            visit = self._clients[txn - 1]
            client = visit.guest
            deeds.append(("txn", txn, visit.begin, visit.end, time, tuple(client.got()), client.writes()))
        for visit in self._readers:
            reader = visit.guest
            if visit.begin is not None:
                deeds.append(("reader", reader.number, visit.begin, visit.end, reader.time, tuple(reader.got()), ()))
        return deeds

    def _is_running(self, node):
        return _has(self._services, node) and self.fabric.is_up(node)

    def _count(self, done):
        """Count an action if it was performed, and return whether it was."""
        if done:
            self._steps += 1
        return done

    def _note_sure(self, node):
        """Let the chronicle of a replica's group be as long as the replica's list of sure entries."""
        # Called where a replica reviews, because only a review or an append makes more entries sure.
        group = self.fabric.group_of(node)
        replica = self.fabric.replica(node)
        if replica.sure > len(self._chronicles[group]):
            self._chronicles[group] = replica.sure_entries()

    def _state_of(self, group):
        return _item(self._keepers, group, "group").state_after(self._chronicles[group])

    def _hand_to_node(self, sender, to, letter):
        if not self.fabric.is_up(to):
            return
        span = self.fabric.span(to)
        if is_group_letter(letter):
            self.fabric.replica(to).receive(sender, letter, span)
            self._note_sure(to)
        else:
            self._services[to].handle(sender, letter, span)

    def _hand_to_guest(self, to, letter):
        visits = self._clients + self._readers
        if _has(visits, to - self.nodes):
            visit = visits[to - self.nodes]
            visit.guest.receive(letter)
            visit.note(self._steps + 1)

    def _post(self, address, pairs):
        """Post letters from an address to all replicas of their groups."""
        for group, letter in pairs:
            for to in self.fabric.members(group):
                self.fabric.send_letter(address, to, letter)


def _has(items, index):
    return 0 <= index < len(items)


def _item(items, index, word):
    """Return the item at an index, which must be there."""
    if not _has(items, index):
        raise BadArgument(f"there is no such {word}")
    return items[index]


def _check_lookup(keys):
    if len(keys) == 0:
        raise BadArgument("a reader reads one key or more")
    # Encoded only because that finds every wrong key and every wrong order.
    encode_keys(keys)
