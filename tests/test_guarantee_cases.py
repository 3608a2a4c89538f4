"""Points 52 and 53 in runs that are made by hand."""

import unittest

from meridian.world.cluster import Cluster
from tests.clusters import leaders_of
from tests.smooth import begin, copy, handle_client, handle_reader
from tests.watches import Watch

BOTH = [("put", "a", 1), ("put", "p", 2)]


class CasesTest(unittest.TestCase):

    def ready(self, programs, lookups=(), **named):
        cluster = Cluster(programs, list(lookups), **named)
        begin(cluster)
        return cluster, Watch(self, cluster, programs)

    def exchange(self, cluster, *, without=(), many=3):
        """Exchange, but lose what is sent to some addresses and from them."""
        for _ in range(many):
            for node in range(cluster.nodes):
                cluster.flush(node)
            while len(cluster.fabric.network) > 0:
                sender, to, _ = cluster.fabric.network.packet(0)
                if sender in without or to in without:
                    cluster.lose(0)
                else:
                    cluster.deliver(0)

    def spread(self, cluster, *, without=()):
        for node in leaders_of(cluster):
            for to in range(cluster.nodes):
                cluster.send(node, to)
        self.exchange(cluster, without=without)

    def elect(self, cluster, node, *, without=()):
        cluster.tick(500)
        cluster.stand(node)
        self.exchange(cluster, without=without)
        for _ in range(2):
            self.spread(cluster, without=without)
        self.assertIn(node, leaders_of(cluster))

    def finish(self, cluster, watch, *, without=()):
        """Let client 0 come to its end, and reader 0 after it."""
        while cluster.client(0).phase != "ended":
            cluster.push(0)
            self.exchange(cluster, without=without)
            self.spread(cluster, without=without)
            cluster.tick(30)
            watch.look()
        while cluster.reader(0).phase != "ended":
            for node in leaders_of(cluster):
                cluster.lease(node, 50)
                cluster.ask(node, 1)
            cluster.look(0)
            self.exchange(cluster, without=without)
            self.spread(cluster, without=without)
            cluster.tick(30)
            watch.look()

    def test_a_leader_that_crashes_before_it_can_tell_what_it_decided(self):
        cluster, watch = self.ready([BOTH], [["a", "p"]], cuts=["m"])
        while cluster.committed() == []:
            cluster.push(0)
            self.exchange(cluster)
            self.spread(cluster)
            watch.look()
        cluster.crash(0)
        self.assertIsNone(cluster.client(0).result)
        self.elect(cluster, 1)
        self.finish(cluster, watch)
        self.assertEqual([(1, cluster.client(0).result)], cluster.committed())
        self.assertEqual(cluster.reader(0).got(), [("a", 1), ("p", 2)])

    def test_a_leader_that_does_not_know_that_there_is_another_one(self):
        cluster, watch = self.ready([[("put", "a", 1)]], [["a"], ["a"]])
        cluster.lease(0, 30)
        self.exchange(cluster)
        self.elect(cluster, 1, without=[0])
        self.assertEqual(leaders_of(cluster), [0, 1])
        while cluster.client(0).phase != "ended":
            cluster.push(0)
            self.exchange(cluster, without=[0])
            self.spread(cluster, without=[0])
            cluster.tick(20)
            watch.look()
        self.assertTrue(cluster.client(0).result > 0 and cluster.service(0).is_ready)
        cluster.lease(1, 500)
        self.exchange(cluster, without=[0])
        cluster.look(0)
        cluster.deliver(0)
        cluster.flush(0)
        # The first leader has no lease for this time, so it does not answer with what it still holds.
        self.assertEqual([packet[1] for packet in cluster.fabric.network], [1, 2])
        self.exchange(cluster, without=[0])
        watch.look()
        self.assertEqual(cluster.reader(0).got(), [("a", 1)])

    def test_a_prepare_record_that_is_lost_before_it_is_sure(self):
        cluster, watch = self.ready([BOTH], [["a", "p"]], cuts=["m"])
        for _ in range(2):
            cluster.push(0)
            self.exchange(cluster, without=[4, 5], many=2)
            self.spread(cluster, without=[4, 5])
        self.assertEqual([group for group, _ in cluster.client(0).prepared()], [0])
        self.assertEqual(cluster.service(3).full_state().all_held(), [1])
        self.elect(cluster, 4, without=[3])
        self.assertEqual(cluster.service(4).full_state().all_held(), [])
        self.finish(cluster, watch, without=[3])
        self.assertTrue(cluster.client(0).result > 0)
        self.assertEqual(cluster.reader(0).got(), [("a", 1), ("p", 2)])

    def test_a_decision_that_is_lost_before_it_is_sure(self):
        cluster, watch = self.ready([BOTH], [["a", "p"]], cuts=["m"])
        while cluster.client(0).phase != "committing":
            cluster.push(0)
            self.exchange(cluster)
            self.spread(cluster)
        cluster.push(0)
        self.exchange(cluster, without=[1, 2])
        time = cluster.service(0).full_state().outcome(1)
        self.assertTrue(time > 0 and cluster.committed() == [])
        cluster.ask(3, 1)
        self.exchange(cluster, without=[1, 2])
        self.spread(cluster, without=[1, 2])
        self.assertEqual(cluster.state(1).all_held(), [1])
        self.elect(cluster, 1, without=[0])
        cluster.ask(3, 1)
        self.exchange(cluster, without=[0])
        self.spread(cluster, without=[0])
        self.finish(cluster, watch, without=[0])
        self.assertEqual((cluster.client(0).result, cluster.committed()), (0, []))
        self.assertEqual([cluster.state(group).outcome(1) for group in (0, 1)], [0, 0])
        self.assertEqual(cluster.reader(0).got(), [("a", None), ("p", None)])

    def test_deeds_of_different_groups_and_clocks_in_real_time(self):
        for first, second in [(-50, 50), (50, -50), (-50, -50)]:
            cluster, watch = self.ready([[("put", "a", 1)], [("put", "p", 1)]], [["p"], ["a"]], cuts=["m"], bound=50)
            cluster.tick(5000)
            cluster.drift(0, first)
            cluster.drift(3, second)
            cluster.drift(8, -second)
            cluster.drift(9, -first)
            handle_reader(cluster, 0)
            handle_client(cluster, 0)
            handle_client(cluster, 1)
            handle_reader(cluster, 1)
            watch.look()
            deeds = sorted(cluster.history(), key=lambda deed: deed[4])
            self.assertEqual([deed[:2] for deed in deeds], [("reader", 0), ("txn", 1), ("txn", 2), ("reader", 1)])

    def test_a_slow_clock_decides_right_after_a_reader_with_a_fast_one_has_ended(self):
        cluster, watch = self.ready([[("put", "a", 1)]], [["p"]], cuts=["m"], bound=50)
        cluster.tick(5000)
        cluster.drift(0, -50)
        cluster.drift(7, 50)
        cluster.lease(3, 500)
        self.exchange(cluster)
        cluster.look(0)
        self.exchange(cluster)
        while not cluster.look(0):
            cluster.tick(1)
        while cluster.committed() == []:
            cluster.push(0)
            self.exchange(cluster)
            self.spread(cluster)
        watch.look()
        self.assertEqual([deed[:2] for deed in cluster.history()], [("txn", 1), ("reader", 0)])
        self.assertLess(cluster.reader(0).time, cluster.now)

    def test_a_client_that_is_refused_by_one_group_and_prepared_by_the_other(self):
        cluster, watch = self.ready([BOTH], [["a", "p"]], cuts=["m"])
        # The letter to the second group is on its way while the first group gives the transaction up.
        cluster.push(0)
        late = [cluster.fabric.network.packet(index) for index in (3, 4, 5)]
        self.exchange(cluster, without=[3, 4, 5])
        self.spread(cluster)
        cluster.ask(0, 1)
        self.exchange(cluster)
        self.spread(cluster)
        self.assertEqual(cluster.state(0).outcome(1), 0)
        cluster.push(0)
        self.exchange(cluster)
        self.assertEqual(cluster.client(0).result, 0)
        for sender, to, block in late:
            cluster.fabric.network.post(sender, to, block)
        self.exchange(cluster)
        self.spread(cluster)
        self.assertEqual(cluster.state(1).all_held(), [1])
        copy(cluster)
        self.finish(cluster, watch)
        self.assertEqual((cluster.state(1).outcome(1), cluster.committed()), (0, []))


if __name__ == "__main__":
    unittest.main()
