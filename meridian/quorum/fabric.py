"""A simulator of groups of replicas, in which the caller decides what happens (points 32 and 33)."""

from meridian.clocks.clocks import Clock
from meridian.errors import BadArgument, BadBytes, MeridianError
from meridian.net.letters import decode_letter, encode_letter, is_group_letter
from meridian.net.network import Network
from meridian.quorum.replicas import Replica
from meridian.storage.records import encode_record


class Fabric:
    """Groups of replicas, the network, and a clock for each address; guests have a clock only."""

    def __init__(self, groups, size, bound, *, guests=0):
        if groups < 1 or size < 1:
            raise BadArgument("there must be one group or more, and one replica or more in each")
        if bound < 0 or guests < 0:
            raise BadArgument("neither the bound nor the number of guests may be negative")
        self.network = Network()
        self._groups = groups
        self._size = size
        self._now = 0
        self._replicas = [Replica(group * size, size, me) for group in range(groups) for me in range(size)]
        self._up = [True] * (groups * size)
        self._clocks = [Clock(bound) for _ in range(groups * size + guests)]

    @property
    def now(self):
        return self._now

    @property
    def groups(self):
        return self._groups

    @property
    def size(self):
        return self._size

    @property
    def nodes(self):
        return len(self._replicas)

    @property
    def addresses(self):
        return len(self._clocks)

    def replica(self, node):
        """Return the replica with an address."""
        self._check_node(node)
        return self._replicas[node]

    def is_up(self, node):
        """Return whether a replica is up."""
        self._check_node(node)
        return self._up[node]

    def group_of(self, node):
        """Return the group number of a node."""
        self._check_node(node)
        return node // self._size

    def members(self, group):
        """Return the addresses of a group."""
        if group < 0 or group >= self._groups:
            raise BadArgument("there is no such group")
        return list(range(group * self._size, (group + 1) * self._size))

    def span(self, address):
        """Return the span that the clock of an address has now."""
        if not self._has_address(address):
            raise BadArgument("there is no such address")
        return self._clocks[address].span(self._now)

    def tick(self, by):
        """Let the true time pass."""
        if by < 1:
            return False
        self._now += by
        return True

    def drift(self, address, offset):
        """Give the clock of an address another offset."""
        if not self._has_address(address):
            return False
        try:
            self._clocks[address].drift(offset)
        except BadArgument:
            return False
        return True

    def stand(self, node):
        """Let a replica stand."""
        return self._is_running(node) and self._replicas[node].stand(self.span(node))

    def flush(self, node):
        """Flush a replica, and post what it sends."""
        if not self._is_running(node):
            return False
        for to, letter in self._replicas[node].flush(self.span(node)):
            self.send_letter(node, to, letter)
        return True

    def deliver(self, index):
        """Take a packet from the network; a replica that is up receives a group letter that is for it."""
        if not self._has_packet(index):
            return False
        found = self.take(index)
        if found is not None:
            sender, to, letter = found
            if is_group_letter(letter) and self._is_running(to):
                self._replicas[to].receive(sender, letter, self.span(to))
        return True

    def lose(self, index):
        """Lose a packet."""
        if not self._has_packet(index):
            return False
        self.network.lose(index)
        return True

    def double(self, index):
        """Double a packet."""
        if not self._has_packet(index):
            return False
        self.network.double(index)
        return True

    def damage(self, index, at, add):
        """Damage a packet."""
        try:
            self.network.damage(index, at=at, add=add)
        except MeridianError:
            return False
        return True

    def crash(self, node, keep=0, last=None):
        """Let a replica crash."""
        if not self._is_running(node):
            return False
        try:
            self._replicas[node].crash(keep=keep, last=last)
        except BadArgument:
            return False
        self._up[node] = False
        return True

    def restart(self, node):
        """Let a replica that is down come up again."""
        if not self._has_node(node) or self._up[node]:
            return False
        self._up[node] = True
        return True

    def propose(self, node, record):
        """Let a leader propose a record."""
        # Encoded only because a bad record is an error for every node.
        encode_record(record)
        return self._is_running(node) and self._replicas[node].propose(record)

    def send(self, node, to):
        """Let a leader send to another replica of its group."""
        return self._is_running(node) and self._replicas[node].send(to)

    def lease(self, node, length):
        """Let a leader ask for a lease that lasts until some time after the high of its span."""
        if not self._is_running(node) or length < 0:
            return False
        return self._replicas[node].ask_lease(self.span(node).high + length)

    def take(self, index):
        """Take a packet from the network, and return (sender, to, letter), or None if that is not what it is."""
        if not self._has_packet(index):
            return None
        sender, to, block = self.network.take(index)
        try:
            letter = decode_letter(block)
        except BadBytes:
            return None
        return sender, to, letter

    def send_letter(self, sender, to, letter):
        """Post a packet with the block of a letter."""
        self.network.post(sender, to, encode_letter(letter))

    def _has_node(self, node):
        return 0 <= node < len(self._replicas)

    def _is_running(self, node):
        return self._has_node(node) and self._up[node]

    def _has_address(self, address):
        return 0 <= address < len(self._clocks)

    def _has_packet(self, index):
        return 0 <= index < len(self.network)

    def _check_node(self, node):
        if not self._has_node(node):
            raise BadArgument("there is no such node")
