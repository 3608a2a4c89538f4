"""The operator, who brings a cluster to rest whatever happened to it (points 61 to 63)."""

from meridian.clients.phases import ENDED
from meridian.errors import BadArgument
from meridian.quorum.replicas import LEADER
from meridian.storage.records import latest_time


class Operator:
    """Performs actions of one cluster."""

    def __init__(self, cluster):
        self._cluster = cluster

    def wake(self):
        """Restart each replica that is down."""
        for node in range(self._cluster.nodes):
            self._cluster.restart(node)

    def exchange(self):
        """Flush all replicas and deliver all packets, three times."""
        for _ in range(3):
            for node in range(self._cluster.nodes):
                self._cluster.flush(node)
            while self._cluster.deliver(0):
                pass

    def pass_time(self):
        """Let so much time pass that all that was promised, logged or looked at is surely past for every clock."""
        cluster = self._cluster
        wanted = self._latest_time() + 4 * cluster.clock_bound + 2
        cluster.tick(max(1, wanted - cluster.now))

    def elect(self):
        """Let all groups have a leader."""
        for node in range(self._cluster.nodes):
            if self._replica_at(node).role == LEADER:
                self._send_to_others(node)
        self.exchange()
        for group in range(self._cluster.fabric.groups):
            # A candidate whose term is too small learns a greater one, so a second try may be needed.
            for _ in range(2):
                if self.chief(group) is None:
                    self._cluster.stand(self._longest_of(group))
                    self.exchange()

    def level(self):
        """Let all replicas have the logs of their chiefs, with entries that are all sure."""
        tries = max([len(self._replica_at(node).journal) for node in range(self._cluster.nodes)]) + 3
        while tries > 0 and not self._is_level():
            self._send_from_chiefs()
            tries -= 1

    def spread(self):
        """Let the chiefs send to all others, two times."""
        for _ in range(2):
            self._send_from_chiefs()

    def chief(self, group):
        """Return the address of the leader of a group, or None."""
        nodes = [node for node in self._cluster.fabric.members(group) if self._replica_at(node).role == LEADER]
        if nodes == []:
            return None
        return max(nodes, key=lambda node: self._replica_at(node).term)

    def release(self, *, spare=None):
        """Let no transaction but one have a lock or be held."""
        for _ in range(2):
            for client in range(self._cluster.many_clients):
                if client != spare:
                    self._ask(self._cluster.client(client).txn)
            self.exchange()
            self.spread()

    def finish(self, client):
        """Handle a client, and return the number of rounds."""
        guest = self._cluster.client(client)
        if guest.phase == ENDED:
            return 0
        self.release(spare=client)
        rounds = 0
        while guest.phase != ENDED and rounds < len(guest.program) + 6:
            self._ask_leases()
            self._cluster.push(client)
            self._end_round()
            rounds += 1
        return rounds

    def see(self, reader):
        """Handle a reader, and return the number of rounds."""
        guest = self._cluster.reader(reader)
        rounds = 0
        while guest.phase != ENDED and rounds < len(guest.wanted) + 3:
            self._ask_leases()
            self._cluster.look(reader)
            self._end_round()
            rounds += 1
        return rounds

    def settle(self):
        """Bring the cluster to rest."""
        self.wake()
        self.exchange()
        self.pass_time()
        self.elect()
        self.level()
        for client in range(self._cluster.many_clients):
            self.finish(client)
        self.release()
        for reader in range(self._cluster.many_readers):
            self.see(reader)

    def _replica_at(self, node):
        return self._cluster.fabric.replica(node)

    def _chiefs(self):
        """Return the chiefs of all groups that have one."""
        chiefs = [self.chief(group) for group in range(self._cluster.fabric.groups)]
        return [node for node in chiefs if node is not None]

    def _latest_time(self):
        """Return the greatest time that any machine has promised, logged or looked at."""
        times = [0]
        for node in range(self._cluster.nodes):
            journal = self._replica_at(node).journal
            times.append(journal.promise)
            times.append(latest_time([record for _, record in journal.entries()]))
        for index in range(self._cluster.many_readers):
            time = self._cluster.reader(index).time
            if time is not None:
                times.append(time)
        return max(times)

    def _longest_of(self, group):
        """Return the first replica of a group whose log is not behind that of another one."""
        return max(self._cluster.fabric.members(group), key=self._rank_of)

    def _rank_of(self, node):
        journal = self._replica_at(node).journal
        return (journal.last_term, len(journal), -node)

    def _send_to_others(self, node):
        for to in self._cluster.fabric.members(self._cluster.fabric.group_of(node)):
            # A replica does not send to itself.
            self._cluster.send(node, to)

    def _send_from_chiefs(self):
        """Let each chief send to all others of its group, and exchange."""
        for node in self._chiefs():
            self._send_to_others(node)
        self.exchange()

    def _is_level(self):
        """Return whether all replicas have the logs of their chiefs, and know all entries to be sure."""
        for node in self._chiefs():
            entries = self._replica_at(node).journal.entries()
            for other in self._cluster.fabric.members(self._cluster.fabric.group_of(node)):
                replica = self._replica_at(other)
                if replica.journal.entries() != entries or replica.sure < len(entries):
                    return False
        return True

    def _ask(self, txn):
        for node in self._chiefs():
            self._cluster.ask(node, txn)

    def _ask_leases(self):
        for node in self._chiefs():
            self._cluster.lease(node, 4 * self._cluster.clock_bound + 4)

    def _end_round(self):
        self.exchange()
        self.spread()
        self.pass_time()
