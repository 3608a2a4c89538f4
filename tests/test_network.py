"""Point 22: the network."""

import unittest

from meridian.errors import BadArgument, Refused
from meridian.net.network import Network
from tests.helpers import dice, error_of

FAR = 10 ** 59 + 1


def all_of(network):
    """Return what can be seen of a network, each thing in the ways in which it can be seen."""
    many = len(network)
    packets = [network.packet(index) for index in range(many)]
    return many, [(sender, to, list(block)) for sender, to, block in network], packets, [
        network.is_damaged(index) for index in range(many)]


def network_of(model):
    packets = [packet for packet, _ in model]
    return len(model), packets, packets, [is_damaged for _, is_damaged in model]


def two_packets():
    network = Network()
    network.post(3, 5, [1, 2, 250])
    network.post(0, 7, [9])
    return network


class PacketsTest(unittest.TestCase):

    def test_a_new_network(self):
        self.assertEqual(all_of(Network()), (0, [], [], []))

    def test_example(self):
        network = two_packets()
        self.assertIsNone(network.double(0))
        self.assertEqual(network.take(0), (3, 5, [1, 2, 250]))
        self.assertEqual(all_of(network)[2], [(0, 7, [9]), (3, 5, [1, 2, 250])])

    def test_kinds_of_what_is_returned(self):
        network = two_packets()
        self.assertIsNone(network.post(1, 2, []))
        for packet in list(network) + [network.packet(0), network.take(2)]:
            self.assertIsInstance(packet, tuple)
            self.assertIsInstance(packet[2], list)
        self.assertIs(network.is_damaged(0), False)
        self.assertIsNone(network.damage(0, at=0))
        self.assertIs(network.is_damaged(0), True)
        self.assertIsNone(network.lose(0))

    def test_lists_are_copies(self):
        network = Network()
        block = [1, 2, 3]
        network.post(0, 1, block)
        block.append(4)
        network.packet(0)[2].append(5)
        self.assertEqual(network.packet(0), (0, 1, [1, 2, 3]))
        network.double(0)
        first = network.take(0)
        first[2].append(6)
        self.assertEqual(network.packet(0), (0, 1, [1, 2, 3]))

    def test_a_copy_is_not_damaged_by_what_happens_to_the_packet_later(self):
        network = two_packets()
        network.double(0)
        network.damage(0, at=1, add=255)
        self.assertEqual(all_of(network)[2:], ([(3, 5, [1, 1, 250]), (0, 7, [9]), (3, 5, [1, 2, 250])],
                                               [True, False, False]))
        network.double(0)
        self.assertEqual(network.packet(3), (3, 5, [1, 1, 250]))
        self.assertIs(network.is_damaged(3), True)
        self.assertIs(error_of(network.damage, 3, at=0), Refused)
        network.damage(2, at=2, add=6)
        self.assertEqual(network.packet(2), (3, 5, [1, 2, 0]))

    def test_what_is_added_to_a_byte(self):
        for add, byte in [(1, 251), (5, 255), (6, 0), (128, 122), (255, 249)]:
            network = two_packets()
            network.damage(0, at=2, add=add)
            self.assertEqual(network.packet(0)[2], [1, 2, byte])
        network = two_packets()
        network.damage(1, at=0)
        self.assertEqual(network.packet(1)[2], [137])


class WrongArgumentsTest(unittest.TestCase):

    def check(self, network, error, calls):
        for name, args, named in calls:
            before = all_of(network)
            self.assertIs(error_of(getattr(network, name), *args, **named), error, (name, args, named))
            self.assertEqual(all_of(network), before)

    def test_indexes(self):
        for network, indexes in [(Network(), (0, -1, 1, FAR)), (two_packets(), (-1, -2, -3, 2, 3, FAR, -FAR))]:
            for index in indexes:
                self.check(network, BadArgument, [(name, (index,), {}) for name in (
                    "packet", "is_damaged", "take", "lose", "double")])
                self.check(network, BadArgument, [("damage", (index,), {"at": 0}),
                                                  ("damage", (index,), {"at": 0, "add": 1})])

    def test_places_and_sums(self):
        network = two_packets()
        for at in (-1, 3, 4, FAR, -FAR):
            self.check(network, BadArgument, [("damage", (0,), {"at": at}), ("damage", (0,), {"at": at, "add": 1})])
        for add in (0, -1, 256, 257, FAR, -FAR):
            self.check(network, BadArgument, [("damage", (0,), {"at": 1, "add": add})])
        network.post(1, 1, [])
        self.check(network, BadArgument, [("damage", (2,), {"at": 0})])

    def test_a_damaged_packet(self):
        network = two_packets()
        network.damage(0, at=0)
        self.check(network, Refused, [("damage", (0,), {"at": at, "add": add}) for at in range(3) for add in (1, 128, 255)])

    def test_order_of_the_errors(self):
        network = two_packets()
        network.damage(0, at=0)
        self.check(network, BadArgument, [("damage", (0,), {"at": 3}), ("damage", (0,), {"at": 0, "add": 0}),
                                          ("damage", (2,), {"at": 3, "add": 0}), ("damage", (0,), {"at": -1, "add": 256})])


class AnyOrderTest(unittest.TestCase):

    def test_against_a_plain_list(self):
        source = dice(22)
        seen = {}
        for _ in range(60):
            network, model = Network(), []
            for _ in range(50):
                word = source.choice(["post", "post", "take", "lose", "double", "damage", "damage"])
                done = self.act(source, network, model, word)
                seen[word, done] = seen.get((word, done), 0) + 1
                self.assertEqual(all_of(network), network_of(model))
        for word in ("take", "lose", "double", "damage"):
            self.assertTrue(min(seen[word, True], seen[word, False]) > 30, word)

    def act(self, source, network, model, word):
        """Do the same to both; return whether it was possible."""
        if word == "post":
            packet = (source.randrange(4), source.randrange(4), [source.randrange(256) for _ in range(source.randrange(4))])
            network.post(*packet)
            model.append((packet, False))
            return True
        index = source.randrange(-1, len(model) + 1)
        if word == "damage":
            return self.damage(source, network, model, index)
        if not 0 <= index < len(model):
            self.assertIs(error_of(getattr(network, word), index), BadArgument)
            return False
        found = getattr(network, word)(index)
        if word == "double":
            model.append(model[index])
        else:
            packet, _ = model.pop(index)
            self.assertEqual(found, packet if word == "take" else None)
        return True

    def damage(self, source, network, model, index):
        at, add = source.randrange(-1, 4), source.randrange(0, 257)
        if not 0 <= index < len(model) or not 0 <= at < len(model[index][0][2]) or not 1 <= add <= 255:
            self.assertIs(error_of(network.damage, index, at=at, add=add), BadArgument)
            return False
        (sender, to, block), is_damaged = model[index]
        if is_damaged:
            self.assertIs(error_of(network.damage, index, at=at, add=add), Refused)
            return False
        network.damage(index, at=at, add=add)
        new = block[:at] + [(block[at] + add) % 256] + block[at + 1:]
        model[index] = ((sender, to, new), True)
        return True


if __name__ == "__main__":
    unittest.main()
