"""The network: packets in transit, which arrive when the caller says so (point 22)."""

from meridian.errors import BadArgument, Refused


class Network:
    """Packets (sender, to, block), with indexes from 0 in the order in which they were added."""

    def __init__(self):
        self._packets = []
        self._damaged = []

    def __len__(self):
        return len(self._packets)

    def __iter__(self):
        return iter(self._packets)

    def post(self, sender, to, block):
        """Add a packet at the end."""
        self._add((sender, to, list(block)), False)

    def packet(self, index):
        """Return a packet."""
        self._check_index(index)
        sender, to, block = self._packets[index]
        return sender, to, list(block)

    def is_damaged(self, index):
        """Return whether a packet is damaged."""
        self._check_index(index)
        return self._damaged[index]

    def take(self, index):
        """Remove a packet and return it."""
        packet = self.packet(index)
        self.lose(index)
        return packet

    def lose(self, index):
        """Remove a packet."""
        self._check_index(index)
        del self._packets[index]
        del self._damaged[index]

    def double(self, index):
        """Add a copy of a packet at the end."""
        self._add(self.packet(index), self._damaged[index])

    def damage(self, index, *, at, add=128):
        """Replace one byte of a packet by another byte."""
        sender, to, block = self.packet(index)
        if at < 0 or at >= len(block):
            raise BadArgument("the packet has no byte at this index")
        if add < 1 or add > 255:
            raise BadArgument("what is added to a byte must be from 1 to 255")
        # One changed byte is always found by the seal; a second one could undo the first.
        if self._damaged[index]:
            raise Refused("the packet is damaged already")
        block[at] = (block[at] + add) % 256
        self._packets[index] = (sender, to, block)
        self._damaged[index] = True

    def _add(self, packet, is_damaged):
        self._packets.append(packet)
        self._damaged.append(is_damaged)

    def _check_index(self, index):
        if index < 0 or index >= len(self._packets):
            raise BadArgument("there is no packet with this index")
