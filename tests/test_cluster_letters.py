"""Point 50: what becomes of the packets that a cluster delivers."""

import unittest

from meridian.world.cluster import Cluster
from tests.clusters import cluster_view
from tests.smooth import begin, firsts

FAR = 10 ** 40


class DeliverTest(unittest.TestCase):

    def ready(self, **named):
        cluster = Cluster([[("add", "a", 1), ("put", "p", 2)], [("read", "a")]], [["a", "p"]], **named)
        begin(cluster)
        return cluster

    def effect(self, cluster, sender, to, letter):
        """Deliver a letter, and return what it changes beside the steps."""
        cluster.fabric.send_letter(sender, to, letter)
        return self.effect_of_last(cluster)

    def effect_of_last(self, cluster):
        before = cluster_view(cluster)
        self.assertIs(cluster.deliver(len(cluster.fabric.network) - 1), True)
        after = cluster_view(cluster)
        self.assertEqual(after.pop("steps"), before.pop("steps") + 1)
        self.assertEqual(after.pop("packets"), before.pop("packets")[:-1])
        before.pop("damaged")
        after.pop("damaged")
        return {word: after[word] for word in after if after[word] != before[word]}

    def test_there_is_no_such_packet(self):
        cluster = self.ready()
        cluster.push(0)
        before = cluster_view(cluster)
        for index in (-1, 3, FAR):
            self.assertIs(cluster.deliver(index), False)
        self.assertEqual(cluster_view(cluster), before)

    def test_the_packet_with_the_index(self):
        cluster = self.ready()
        for txn in (7, 8, 9):
            cluster.fabric.send_letter(3, 0, ("read", txn, "b", 0))
        cluster.deliver(1)
        self.assertEqual(cluster.service(0).locks(), [("b", 8, False)])
        self.assertEqual([cluster.fabric.take(0)[2][1] for _ in range(2)], [7, 9])

    def test_group_letters(self):
        cluster = self.ready()
        cluster.tick(500)
        cluster.stand(2)
        cluster.flush(2)
        while cluster.deliver(0):
            pass
        vote = (2, ("give_vote", 2))
        self.assertEqual([cluster.fabric.replica(node).outbox() for node in (0, 1, 2)], [[vote], [vote], []])
        self.assertEqual([cluster.fabric.replica(node).role for node in (0, 1, 2)], ["follower", "follower", "candidate"])

    def test_a_group_letter_with_the_span_of_the_clock(self):
        for offset, voted in [(0, True), (-5, False), (5, True), (-3, False), (-2, True)]:
            cluster = Cluster([], [])
            cluster.tick(8)
            cluster.drift(1, offset)
            cluster.fabric.send_letter(0, 1, ("ask_vote", 1, 0, 0))
            cluster.deliver(0)
            self.assertEqual(cluster.fabric.replica(1).outbox(), [(0, ("give_vote", 1))] if voted else [])

    def test_group_letters_that_are_gone_without_effect(self):
        cluster = self.ready()
        cluster.crash(2)
        for to in (2, 3, 4, 5, 6, FAR):
            self.assertEqual(self.effect(cluster, 1, to, ("ask_vote", 9, 9, 9)), {})
            self.assertEqual(self.effect(cluster, 1, to, ("give_vote", 1)), {})

    def test_client_letters_to_replicas(self):
        cluster = self.ready()
        letter = ("read", 1, "a", 0)
        self.assertEqual(self.effect(cluster, 3, 1, letter), {})
        cluster.crash(1)
        self.assertEqual(self.effect(cluster, 3, 1, letter), {})
        changed = self.effect(cluster, 3, 0, letter)
        self.assertEqual(sorted(changed), ["replicas", "services"])
        self.assertEqual(cluster.fabric.replica(0).outbox(), [(3, ("value", 1, "a", None, 1))])
        self.assertEqual(cluster.service(0).locks(), [("a", 1, False)])
        for letter in [("value", 1, "a", 5, 1), ("outcome", 1, 9), ("prepared", 1, 0, 9), ("seen", 0, "a", 1)]:
            self.assertEqual(self.effect(cluster, 3, 0, letter), {})
        cluster.crash(0)
        self.assertEqual(self.effect(cluster, 3, 0, ("read", 2, "b", 0)), {})

    def test_the_span_with_which_a_service_handles_a_letter(self):
        for offset in (-5, 0, 5):
            cluster = self.ready(cuts=["m"])
            cluster.push(0)
            leader = cluster.fabric.replica(firsts(cluster)[1])
            leader.propose(("prepare", 1, 50, 1, (), (("p", 2),)))
            leader.flush(cluster.fabric.span(3))
            for other in (4, 5):
                leader.receive(other, ("appended", 1, len(leader.journal)), cluster.fabric.span(3))
            cluster.tick(1000)
            cluster.drift(3, offset)
            self.effect(cluster, 6, 3, ("commit", 1, ((1, 50),)))
            self.assertEqual(leader.journal.entries()[-1], (1, ("decide", 1, cluster.now + offset + 5)))

    def test_letters_to_clients(self):
        cluster = self.ready()
        self.assertEqual(self.effect(cluster, 0, 3, ("value", 1, "a", 5, 1)), {})
        cluster.push(0)
        self.assertEqual(self.effect(cluster, 0, 4, ("value", 1, "a", 5, 1)), {})
        self.assertEqual(sorted(self.effect(cluster, 0, 3, ("value", 1, "a", 5, 1))), ["guests"])
        self.assertEqual(cluster.client(0).got(), [("a", 5)])
        changed = self.effect(cluster, 0, 3, ("refuse", 1))
        self.assertEqual(sorted(changed), ["guests", "spans of guests"])
        self.assertEqual((cluster.client(0).phase, cluster.span_of_client(0)[1]), ("ended", cluster.steps))
        self.assertEqual(self.effect(cluster, 0, 3, ("refuse", 1)), {})

    def test_letters_to_readers(self):
        cluster = self.ready()
        self.assertEqual(self.effect(cluster, 0, 5, ("seen", 0, "a", 5)), {})
        cluster.look(0)
        for to in (3, 4, 6):
            self.assertEqual(self.effect(cluster, 0, to, ("seen", 0, "a", 5)), {})
        self.effect(cluster, 0, 5, ("seen", 0, "a", 5))
        self.assertEqual(cluster.reader(0).got(), [("a", 5)])
        self.effect(cluster, 0, 5, ("seen", 0, "p", None))
        self.assertEqual((cluster.reader(0).phase, cluster.span_of_reader(0)[1]), ("waiting", None))

    def test_damaged_packets(self):
        for sender, to, letter in [(3, 0, ("read", 1, "a", 0)), (0, 1, ("append", 1, 0, 0, (), 9)), (0, 3, ("refuse", 1))]:
            cluster = self.ready()
            cluster.push(0)
            cluster.fabric.send_letter(sender, to, letter)
            last = len(cluster.fabric.network) - 1
            size = len(cluster.fabric.network.packet(last)[2])
            for at in range(size):
                for add in (1, 128, 255):
                    cluster.double(last)
                    cluster.damage(len(cluster.fabric.network) - 1, at, add)
                    self.assertEqual(self.effect_of_last(cluster), {})

    def test_blocks_that_are_no_letters(self):
        cluster = self.ready()
        for block in ([], [0, 0, 7], [1], [12, 3, 0, 0, 0], [0, 0, 0, 7]):
            for to in range(7):
                cluster.fabric.network.post(0, to, block)
                self.assertEqual(self.effect_of_last(cluster), {})

    def test_addresses_with_nobody(self):
        cluster = self.ready()
        for to in (6, 7, FAR):
            for letter in [("refuse", 1), ("seen", 0, "a", 5), ("read", 1, "a", 0), ("give_vote", 1)]:
                self.assertEqual(self.effect(cluster, 0, to, letter), {})


if __name__ == "__main__":
    unittest.main()
