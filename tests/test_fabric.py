"""Points 32 and 33: the fabric and its actions."""

import unittest

from meridian.clocks.spans import Span
from meridian.errors import BadArgument
from meridian.net.letters import decode_letter, encode_letter
from meridian.net.network import Network
from meridian.quorum.fabric import Fabric
from meridian.quorum.replicas import CANDIDATE, FOLLOWER, LEADER, Replica
from meridian.wire.seals import seal
from tests.helpers import error_of
from tests.runs import elect, exchange, fabric_view

FAR = 10 ** 40
FLOOR = ("floor", 700)
WRONG_RECORDS = [("floor", 0), ("decide", 0, 1), ("prepare", 1, 1, 0, ("b", "a"), ()), ("done", 1, -1)]


def ready_fabric():
    """Return two groups of three and two guests at the time 20; replica 0 leads the first group."""
    fabric = Fabric(2, 3, 5, guests=2)
    fabric.tick(20)
    elect(fabric, 0)
    return fabric


class FabricTest(unittest.TestCase):

    def check_impossible(self, fabric, word, *args):
        before = fabric_view(fabric)
        self.assertIs(getattr(fabric, word)(*args), False, (word, args))
        self.assertEqual(fabric_view(fabric), before)

    def check_changes(self, fabric, parts, word, *args):
        """Check that an action is performed and changes at most some parts of the view."""
        before = fabric_view(fabric)
        self.assertIs(getattr(fabric, word)(*args), True, (word, args))
        after = fabric_view(fabric)
        for name in set(before) - set(parts):
            self.assertEqual(after[name], before[name], (word, name))
        return before, after


class NewFabricTest(FabricTest):

    def test_a_new_fabric(self):
        for groups, size, bound, guests in [(1, 1, 0, 0), (1, 3, 5, 0), (2, 3, 7, 2), (3, 5, 100, 4)]:
            fabric = Fabric(groups, size, bound, guests=guests)
            nodes = groups * size
            self.assertEqual((fabric.now, fabric.groups, fabric.size), (0, groups, size))
            self.assertEqual((fabric.nodes, fabric.addresses), (nodes, nodes + guests))
            self.assertIsInstance(fabric.network, Network)
            self.assertEqual(len(fabric.network), 0)
            for node in range(nodes):
                replica = fabric.replica(node)
                self.assertIsInstance(replica, Replica)
                self.assertEqual((replica.address, replica.base, replica.size), (node, node // size * size, size))
                self.assertEqual((replica.role, replica.term), (FOLLOWER, 0))
                self.assertIs(fabric.is_up(node), True)
                self.assertEqual(fabric.group_of(node), node // size)
            for address in range(nodes + guests):
                self.assertEqual((fabric.span(address).low, fabric.span(address).high), (-bound, bound))
            for group in range(groups):
                self.assertEqual(fabric.members(group), list(range(group * size, group * size + size)))

    def test_guests_may_be_left_out(self):
        self.assertEqual(Fabric(2, 3, 1).addresses, 6)

    def test_arguments_out_of_range(self):
        for args in [(0, 3, 5), (-1, 3, 5), (1, 0, 5), (1, -2, 5), (1, 3, -1), (0, 0, -1), (-FAR, 3, 5)]:
            self.assertIs(error_of(Fabric, *args), BadArgument)
        self.assertIs(error_of(Fabric, 1, 3, 5, guests=-1), BadArgument)

    def test_what_does_not_exist(self):
        fabric = ready_fabric()
        for node in (-1, -6, 6, 7, 8, FAR, -FAR):
            for call in (fabric.replica, fabric.is_up, fabric.group_of):
                self.assertIs(error_of(call, node), BadArgument)
        for group in (-1, 2, 3, FAR):
            self.assertIs(error_of(fabric.members, group), BadArgument)
        for address in (-1, 8, 9, FAR):
            self.assertIs(error_of(fabric.span, address), BadArgument)

    def test_a_returned_list_is_new(self):
        fabric = ready_fabric()
        fabric.members(1).append(9)
        self.assertEqual(fabric.members(1), [3, 4, 5])

    def test_example(self):
        fabric = Fabric(1, 3, 5)
        self.check_impossible(fabric, "stand", 0)
        for word, at in [("tick", 6), ("stand", 0), ("flush", 0), ("deliver", 0), ("flush", 1), ("deliver", 1)]:
            self.assertIs(getattr(fabric, word)(at), True)
        replica = fabric.replica(0)
        self.assertEqual((replica.role, replica.term), (LEADER, 1))
        self.assertEqual(replica.journal.entries(), [(1, ("floor", 11))])


class ClocksTest(FabricTest):

    def test_tick(self):
        fabric = ready_fabric()
        now = 20
        for by in (1, 2, 100, FAR):
            self.check_changes(fabric, ["now", "spans"], "tick", by)
            now += by
            self.assertEqual(fabric.now, now)
        for by in (0, -1, -FAR):
            self.check_impossible(fabric, "tick", by)

    def test_drift(self):
        fabric = ready_fabric()
        for address in (0, 5, 7):
            for offset in (-5, 5, 0, 3):
                before, after = self.check_changes(fabric, ["spans"], "drift", address, offset)
                before["spans"][address] = (15 + offset, 25 + offset)
                self.assertEqual(after["spans"], before["spans"])
            for offset in (-6, 6, FAR, -FAR):
                self.check_impossible(fabric, "drift", address, offset)
        for address in (-1, 8, FAR):
            self.check_impossible(fabric, "drift", address, 0)

    def test_a_clock_without_bound(self):
        fabric = Fabric(1, 1, 0)
        self.check_changes(fabric, ["spans"], "drift", 0, 0)
        self.check_impossible(fabric, "drift", 0, 1)


class ReplicaActionsTest(FabricTest):

    NODES = (-1, -6, 6, 7, 8, FAR, -FAR)

    def check_no_such_node_or_down(self, word, *rest):
        for fabric in (Fabric(2, 3, 5, guests=2), ready_fabric()):
            for node in self.NODES:
                self.check_impossible(fabric, word, node, *rest)
            for node in (0, 4):
                fabric.crash(node)
                self.check_impossible(fabric, word, node, *rest)

    def test_stand(self):
        self.check_no_such_node_or_down("stand")
        fabric = ready_fabric()
        self.check_impossible(fabric, "stand", 0)
        self.check_changes(fabric, ["replicas"], "stand", 4)
        self.assertEqual(fabric.replica(4).role, CANDIDATE)
        fabric = Fabric(1, 3, 5)
        fabric.tick(5)
        self.check_impossible(fabric, "stand", 2)
        fabric.drift(2, 1)
        self.check_changes(fabric, ["replicas"], "stand", 2)
        self.check_impossible(fabric, "stand", 1)

    def test_flush(self):
        self.check_no_such_node_or_down("flush")
        fabric = ready_fabric()
        fabric.replica(0).post(7, ("refuse", 3))
        fabric.replica(0).post(2, ("give_vote", 1))
        fabric.replica(0).post(7, ("refuse", 3))
        fabric.propose(0, FLOOR)
        _, after = self.check_changes(fabric, ["replicas", "packets", "damaged"], "flush", 0)
        self.assertEqual(after["packets"], [(0, 7, seal([12, 3])), (0, 2, seal([2, 1])), (0, 7, seal([12, 3]))])
        self.assertEqual(after["damaged"], [False] * 3)
        self.assertEqual((fabric.replica(0).outbox(), fabric.replica(0).journal.loose_size), ([], 0))
        _, after = self.check_changes(fabric, [], "flush", 0)
        self.assertEqual(len(after["packets"]), 3)

    def test_flush_reviews_with_the_span_of_the_clock(self):
        fabric = Fabric(1, 1, 5)
        fabric.tick(30)
        fabric.drift(0, -2)
        fabric.stand(0)
        fabric.flush(0)
        self.assertEqual(fabric.replica(0).journal.entries(), [(1, ("floor", 33))])

    def test_propose(self):
        self.check_no_such_node_or_down("propose", FLOOR)
        fabric = ready_fabric()
        for node in (1, 3):
            self.check_impossible(fabric, "propose", node, FLOOR)
        before, after = self.check_changes(fabric, ["replicas"], "propose", 0, FLOOR)
        self.assertEqual(after["replicas"][0]["log"], before["replicas"][0]["log"] + [(1, FLOOR)])

    def test_records_that_cannot_be_encoded(self):
        fabric = ready_fabric()
        fabric.crash(2)
        for record in WRONG_RECORDS:
            for node in (0, 1, 2, -1, 6, FAR):
                before = fabric_view(fabric)
                self.assertIs(error_of(fabric.propose, node, record), BadArgument)
                self.assertEqual(fabric_view(fabric), before)

    def test_send(self):
        self.check_no_such_node_or_down("send", 1)
        fabric = ready_fabric()
        for node, to in [(0, 0), (0, 3), (0, -1), (0, 6), (0, FAR), (1, 0), (3, 4)]:
            self.check_impossible(fabric, "send", node, to)
        fabric.crash(2)
        for to in (1, 2):
            self.check_changes(fabric, ["replicas"], "send", 0, to)
        self.assertEqual(fabric.replica(0).outbox(), [(to, ("append", 1, 1, 1, (), 1)) for to in (1, 2)])

    def test_lease(self):
        self.check_no_such_node_or_down("lease", 5)
        fabric = ready_fabric()
        for length in (-1, -FAR):
            self.check_impossible(fabric, "lease", 0, length)
        for node in (1, 3):
            self.check_impossible(fabric, "lease", node, 5)
        fabric.drift(0, 3)
        for length in (0, 7):
            self.check_changes(fabric, ["replicas"], "lease", 0, length)
            self.assertEqual(fabric.replica(0).outbox()[-2:], [(to, ("ask_lease", 1, 28 + length)) for to in (1, 2)])
            self.assertEqual(fabric.replica(0).journal.promise, 28 + length)

    def test_crash(self):
        self.check_no_such_node_or_down("crash")
        fabric = ready_fabric()
        fabric.propose(0, FLOOR)
        loose = fabric.replica(0).journal.loose_size
        for keep, last in [(-1, None), (loose + 1, None), (FAR, None), (0, -1), (0, 256), (loose, FAR), (-1, 256)]:
            self.check_impossible(fabric, "crash", 0, keep, last)
        self.check_changes(fabric, ["replicas", "up"], "crash", 0, loose, None)
        self.assertEqual(fabric.replica(0).journal.entries()[-1], (1, FLOOR))
        self.assertEqual((fabric.is_up(0), fabric.is_up(1)), (False, True))
        self.assertEqual((fabric.replica(0).role, fabric.replica(0).sure), (FOLLOWER, 0))

    def test_what_a_crash_keeps(self):
        for keep, last, kept in [(0, None, False), (0, 255, False), (1, None, False), (None, 255, False),
                                 (None, None, True)]:
            fabric = ready_fabric()
            fabric.propose(0, FLOOR)
            loose = fabric.replica(0).journal.loose_size
            fabric.crash(0, loose if keep is None else keep, last)
            self.assertEqual((1, FLOOR) in fabric.replica(0).journal.entries(), kept)
        fabric = ready_fabric()
        fabric.propose(0, FLOOR)
        fabric.crash(0)
        self.assertNotIn((1, FLOOR), fabric.replica(0).journal.entries())

    def test_restart(self):
        fabric = ready_fabric()
        for node in self.NODES + (0, 5):
            self.check_impossible(fabric, "restart", node)
        fabric.crash(5)
        self.check_changes(fabric, ["up"], "restart", 5)
        self.check_impossible(fabric, "restart", 5)
        self.assertIs(fabric.stand(5), True)


class PacketsTest(FabricTest):

    def fabric_with(self, *packets):
        fabric = ready_fabric()
        for sender, to, block in packets:
            fabric.network.post(sender, to, block)
        return fabric

    def test_indexes_out_of_range(self):
        for fabric, indexes in [(ready_fabric(), (0, 1, -1, FAR)), (self.fabric_with((0, 1, [1]), (0, 2, [2])), (-1, -2, 2, FAR))]:
            for index in indexes:
                for word in ("deliver", "lose", "double"):
                    self.check_impossible(fabric, word, index)
                self.check_impossible(fabric, "damage", index, 0, 1)
                before = fabric_view(fabric)
                self.assertIsNone(fabric.take(index))
                self.assertEqual(fabric_view(fabric), before)

    def test_lose_and_double(self):
        fabric = self.fabric_with((0, 1, [1]), (0, 2, [2]), (3, 4, [3]))
        _, after = self.check_changes(fabric, ["packets", "damaged"], "double", 1)
        self.assertEqual([block for _, _, block in after["packets"]], [[1], [2], [3], [2]])
        _, after = self.check_changes(fabric, ["packets", "damaged"], "lose", 0)
        self.assertEqual([block for _, _, block in after["packets"]], [[2], [3], [2]])

    def test_damage(self):
        fabric = self.fabric_with((0, 1, [1, 250]), (0, 2, []))
        for index, at, add in [(0, -1, 1), (0, 2, 1), (0, FAR, 1), (0, 0, 0), (0, 0, 256), (0, 0, -1), (0, 0, FAR), (1, 0, 1)]:
            self.check_impossible(fabric, "damage", index, at, add)
        _, after = self.check_changes(fabric, ["packets", "damaged"], "damage", 0, 1, 10)
        self.assertEqual((after["packets"][0], after["damaged"]), ((0, 1, [1, 4]), [True, False]))
        for at in (0, 1):
            self.check_impossible(fabric, "damage", 0, at, 5)

    def test_deliver_to_a_replica(self):
        fabric = self.fabric_with((2, 1, encode_letter(("ask_vote", 0, 0, 0))), (1, 2, encode_letter(("ask_lease", 1, 80))))
        before, after = self.check_changes(fabric, ["packets", "damaged", "replicas"], "deliver", 1)
        self.assertEqual(after["packets"], before["packets"][:1])
        self.assertEqual(fabric.replica(2).outbox(), [(1, ("give_lease", 1, 80))])
        self.assertEqual(fabric.replica(1).outbox(), [])
        fabric.deliver(0)
        self.assertEqual(fabric.replica(1).outbox(), [(2, ("behind", 1, 1))])

    def test_deliver_uses_the_span_of_the_receiver(self):
        for offset, possible in [(0, False), (1, True)]:
            fabric = Fabric(1, 3, 5)
            fabric.tick(5)
            fabric.drift(1, offset)
            fabric.send_letter(2, 1, ("ask_vote", 1, 0, 0))
            self.assertIs(fabric.deliver(0), True)
            self.assertEqual(fabric.replica(1).outbox(), [(2, ("give_vote", 1))] if possible else [])

    def test_packets_that_are_gone_without_effect(self):
        good = encode_letter(("ask_lease", 1, 80))
        torn = list(good)
        torn[2] = (torn[2] + 1) % 256
        for to, block in [(6, good), (7, good), (8, good), (FAR, good), (2, torn), (2, []), (2, seal([0])),
                          (2, seal([6, 1, 80, 0])), (2, encode_letter(("query", 3))), (2, encode_letter(("refuse", 3))),
                          (5, encode_letter(("read", 1, "a", 0)))]:
            fabric = self.fabric_with((1, to, block), (1, 7, [5]))
            before, after = self.check_changes(fabric, ["packets", "damaged"], "deliver", 0)
            self.assertEqual(after["packets"], before["packets"][1:])

    def test_packets_for_a_replica_that_is_down(self):
        fabric = self.fabric_with((1, 2, encode_letter(("ask_lease", 1, 80))))
        fabric.crash(2)
        _, after = self.check_changes(fabric, ["packets", "damaged"], "deliver", 0)
        self.assertEqual(after["packets"], [])

    def test_a_damaged_packet(self):
        for at in range(7):
            for add in (1, 128, 255):
                fabric = self.fabric_with((1, 2, encode_letter(("ask_lease", 1, 300))))
                self.assertIs(fabric.damage(0, at, add), True)
                self.check_changes(fabric, ["packets", "damaged"], "deliver", 0)

    def test_take(self):
        fabric = self.fabric_with((1, 7, encode_letter(("refuse", 3))), (4, 2, [1, 2]), (FAR, FAR, encode_letter(("query", 1))),
                                  (0, 1, seal([0])))
        self.assertEqual(fabric.take(0), (1, 7, ("refuse", 3)))
        self.assertEqual(len(fabric.network), 3)
        self.assertIsNone(fabric.take(0))
        self.assertEqual(len(fabric.network), 2)
        self.assertIsNone(fabric.take(1))
        self.assertEqual(fabric.take(0), (FAR, FAR, ("query", 1)))
        self.assertEqual(len(fabric.network), 0)

    def test_send_letter(self):
        fabric = ready_fabric()
        self.assertIsNone(fabric.send_letter(7, 2, ("read", 1, "a", 0)))
        self.assertIsNone(fabric.send_letter(6, 0, ("query", 5)))
        self.assertEqual([(sender, to, decode_letter(block)) for sender, to, block in fabric.network],
                         [(7, 2, ("read", 1, "a", 0)), (6, 0, ("query", 5))])


class GroupsTest(FabricTest):

    def test_groups_do_not_touch_each_other(self):
        fabric = ready_fabric()
        elect(fabric, 4)
        self.assertEqual([fabric.replica(node).role for node in range(6)],
                         [LEADER, FOLLOWER, FOLLOWER, FOLLOWER, LEADER, FOLLOWER])
        first = fabric_view(fabric)["replicas"][:3]
        fabric.propose(4, FLOOR)
        fabric.send(4, 3)
        exchange(fabric)
        self.assertEqual(fabric.replica(3).journal.entries(), [(1, ("floor", 25)), (1, FLOOR)])
        self.assertEqual(fabric_view(fabric)["replicas"][:3], first)

    def test_a_group_agrees_on_a_log(self):
        for size in (1, 2, 3, 4, 5):
            fabric = Fabric(1, size, 5)
            fabric.tick(11)
            elect(fabric, 0)
            for number in range(3):
                fabric.propose(0, ("decide", number + 1, 0))
            for _ in range(2):
                for to in range(size):
                    fabric.send(0, to)
                exchange(fabric)
            wanted = [(1, ("floor", 16))] + [(1, ("decide", number, 0)) for number in (1, 2, 3)]
            for node in range(size):
                self.assertEqual(fabric.replica(node).sure_entries(), wanted)

    def test_a_span_is_that_of_the_present_time(self):
        fabric = ready_fabric()
        self.assertIsInstance(fabric.span(7), Span)
        fabric.tick(100)
        self.assertEqual((fabric.span(7).low, fabric.span(7).high), (115, 125))


if __name__ == "__main__":
    unittest.main()
