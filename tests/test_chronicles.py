"""Points 51, 52 and 54: chronicles, committed transactions and the history of a cluster."""

import unittest

from meridian.errors import BadArgument
from meridian.ledger.states import State, state_of
from meridian.world.cluster import Cluster
from tests.clusters import exchange, long_run, some_cluster
from tests.helpers import dice, error_of
from tests.smooth import begin, copy, handle_client, handle_reader, round_of
from tests.test_service import state_view

PUT = [("put", "a", 1)]


class ChronicleTest(unittest.TestCase):

    def test_bad_groups(self):
        cluster = Cluster([PUT], [], cuts=["m"])
        for group in (-1, 2, 10 ** 40):
            self.assertEqual(error_of(cluster.chronicle, group), BadArgument)
            self.assertEqual(error_of(cluster.state, group), BadArgument)

    def test_a_chronicle_grows_with_the_sure_entries(self):
        cluster = Cluster([], [], cuts=["m"])
        cluster.tick(11)
        for node in (0, 3):
            cluster.stand(node)
        exchange(cluster)
        self.assertEqual([cluster.chronicle(group) for group in (0, 1)], [[], []])
        cluster.send(0, 1)
        cluster.flush(0)
        cluster.deliver(0)
        cluster.flush(1)
        self.assertEqual(cluster.chronicle(0), [])
        cluster.deliver(0)
        self.assertEqual([cluster.chronicle(group) for group in (0, 1)], [[(1, ("floor", 16))], []])

    def test_a_group_of_one_replica(self):
        cluster = Cluster([], [], size=1)
        cluster.tick(11)
        cluster.stand(0)
        cluster.flush(0)
        self.assertEqual((cluster.fabric.replica(0).role, cluster.chronicle(0)), ("leader", []))
        cluster.flush(0)
        self.assertEqual(cluster.chronicle(0), [(1, ("floor", 16))])

    def test_a_chronicle_survives_all_crashes(self):
        cluster = Cluster([PUT], [])
        begin(cluster)
        handle_client(cluster, 0)
        chronicle = cluster.chronicle(0)
        self.assertEqual([record[0] for _, record in chronicle], ["floor", "prepare", "decide"])
        time = cluster.client(0).result
        for node in range(3):
            cluster.crash(node)
        for _ in range(2):
            self.assertEqual(cluster.chronicle(0), chronicle)
            self.assertEqual(state_view(cluster.state(0)), state_view(state_of([record for _, record in chronicle])))
            self.assertEqual(cluster.committed(), [(1, time)])
            self.assertEqual(len(cluster.history()), 1)
            for node in range(3):
                cluster.restart(node)
        cluster.tick(1000)
        cluster.stand(1)
        exchange(cluster)
        self.assertEqual(cluster.fabric.replica(0).sure, 0)
        self.assertEqual(cluster.chronicle(0), chronicle)

    def test_what_is_returned_may_be_changed(self):
        cluster = Cluster([PUT], [["a"]])
        begin(cluster)
        handle_client(cluster, 0)
        handle_reader(cluster, 0)
        before = cluster.chronicle(0), cluster.committed(), cluster.history()
        for found in (cluster.chronicle(0), cluster.committed(), cluster.history()):
            self.assertNotEqual(found, [])
            found.clear()
        state = cluster.state(0)
        self.assertIsInstance(state, State)
        self.assertTrue(state.apply(("floor", 10 ** 9)))
        self.assertTrue(state.apply(("decide", 5, 0)))
        state.cells.put(10 ** 9, (("a", 5),))
        self.assertEqual((cluster.chronicle(0), cluster.committed(), cluster.history()), before)
        self.assertEqual(cluster.state(0).cells.last_value("a"), 1)
        self.assertLess(cluster.state(0).floor, 10 ** 9)

    def test_long_runs(self):
        for seed in (5100, 5101, 5102):
            source = dice(seed)
            cluster = some_cluster(source, size=3, bound=1)
            longest = [[] for _ in range(cluster.fabric.groups)]
            for _ in long_run(source, cluster, 2000, 0.03):
                for node in range(cluster.nodes):
                    entries = cluster.fabric.replica(node).sure_entries()
                    group = cluster.fabric.group_of(node)
                    if len(entries) > len(longest[group]):
                        longest[group] = entries
                for group, entries in enumerate(longest):
                    self.assertEqual(cluster.chronicle(group), entries)
            self.assertTrue(sum(len(entries) for entries in longest) > 10)
            for group, entries in enumerate(longest):
                self.assertEqual(state_view(cluster.state(group)), state_view(state_of([record for _, record in entries])))


class CommittedTest(unittest.TestCase):

    def test_a_transaction_is_committed_before_its_client_knows(self):
        cluster = Cluster([PUT + [("put", "p", 2)]], [], cuts=["m"])
        begin(cluster)
        while cluster.committed() == []:
            self.assertEqual((cluster.history(), cluster.client(0).result), ([], None))
            round_of(cluster, cluster.push, 0)
        (txn, time), = cluster.committed()
        self.assertEqual((txn, cluster.client(0).phase), (1, "committing"))
        self.assertEqual([cluster.state(group).outcome(1) for group in (0, 1)], [time, None])
        self.assertEqual(cluster.history(), [("txn", 1, cluster.span_of_client(0)[0], None, time, (), (("a", 1), ("p", 2)))])
        handle_client(cluster, 0)
        self.assertEqual([cluster.state(group).outcome(1) for group in (0, 1)], [time, time])
        self.assertEqual((cluster.committed(), cluster.client(0).result), ([(1, time)], time))

    def test_aborted_transactions_are_not_committed(self):
        cluster = Cluster([PUT, [("put", "b", 1)], [("put", "c", 1), ("need", "c", 2)]], [])
        begin(cluster)
        round_of(cluster, cluster.push, 0)
        self.assertEqual(cluster.state(0).all_held(), [1])
        cluster.ask(0, 1)
        exchange(cluster)
        copy(cluster)
        handle_client(cluster, 1)
        handle_client(cluster, 2)
        handle_client(cluster, 0)
        self.assertEqual(cluster.state(0).outcome(1), 0)
        self.assertEqual([cluster.client(index).result == 0 for index in range(3)], [True, False, True])
        self.assertEqual([txn for txn, _ in cluster.committed()], [2])
        self.assertEqual([deed[1] for deed in cluster.history()], [2])


class HistoryTest(unittest.TestCase):

    def test_deeds(self):
        cluster = Cluster([[("put", "p", 3)], [("put", "p", 3), ("need", "p", 9)], [("add", "p", 1), ("drop", "a"),
                           ("read", "b")]], [["a"], ["a", "p"], ["q"]], cuts=["m"])
        begin(cluster)
        for index in (2, 0, 1):
            handle_client(cluster, index)
        handle_reader(cluster, 1)
        cluster.look(2)
        first, last = cluster.client(2).result, cluster.client(0).result
        deeds = cluster.history()
        self.assertEqual([deed[:2] + deed[4:] for deed in deeds], [
            ("txn", 1, last, (), (("p", 3),)),
            ("txn", 3, first, (("p", None), ("b", None)), (("a", None), ("p", 1))),
            ("reader", 1, cluster.reader(1).time, (("a", None), ("p", 3)), ()),
            ("reader", 2, cluster.reader(2).time, (), ())])
        spans = [cluster.span_of_client(0), cluster.span_of_client(2), cluster.span_of_reader(1), cluster.span_of_reader(2)]
        self.assertEqual([deed[2:4] for deed in deeds], spans)
        self.assertEqual(spans[3], (cluster.steps, None))
        self.assertTrue(first < last and spans[1][1] < spans[0][0])

    def test_a_new_cluster_has_no_deeds(self):
        cluster = Cluster([PUT], [["a"]])
        self.assertEqual((cluster.history(), cluster.committed()), ([], []))
        cluster.push(0)
        self.assertEqual(cluster.history(), [])
        cluster.look(0)
        self.assertEqual(cluster.history(), [("reader", 0, 2, None, 5, (), ())])


if __name__ == "__main__":
    unittest.main()
