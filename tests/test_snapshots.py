"""Point 55: what replicas know, and snapshots."""

import unittest

from meridian.errors import BadArgument, Refused
from meridian.views.snapshots import best_replica, known_time, peek, settled_time, snapshot
from meridian.world.cluster import Cluster
from meridian.world.operator import Operator
from tests.clusters import committed_rows, exchange, long_run, some_cluster
from tests.helpers import dice, error_of
from tests.smooth import begin, copy, handle_client, round_of

FAR = 10 ** 40
PROGRAMS = [[("put", "a", 1), ("put", "p", 2)], [("put", "b", 5), ("drop", "p")]]


class KnownTimeTest(unittest.TestCase):

    def test_a_new_cluster(self):
        cluster = Cluster([], [], cuts=["m"])
        self.assertEqual([known_time(cluster, node) for node in range(6)], [0] * 6)
        self.assertEqual((settled_time(cluster), snapshot(cluster, 0)), (0, []))
        self.assertEqual(error_of(snapshot, cluster, 1), Refused)

    def test_bad_nodes(self):
        cluster = Cluster(PROGRAMS, [["a"]])
        cluster.crash(1)
        for node in (-1, 3, 4, 6, FAR):
            self.assertEqual(error_of(known_time, cluster, node), BadArgument)
            self.assertEqual(error_of(peek, cluster, node, "a", 0), BadArgument)
        for group in (-1, 1, FAR):
            self.assertEqual(error_of(best_replica, cluster, group), BadArgument)

    def test_only_sure_entries_are_known(self):
        cluster = Cluster([], [])
        begin(cluster)
        self.assertEqual([known_time(cluster, node) for node in range(3)], [16, 16, 16])
        cluster.tick(100)
        cluster.close(0)
        self.assertEqual([known_time(cluster, node) for node in range(3)], [16, 16, 16])
        cluster.send(0, 1)
        exchange(cluster)
        self.assertEqual([known_time(cluster, node) for node in range(3)], [116, 16, 16])
        cluster.send(0, 2)
        exchange(cluster)
        self.assertEqual([known_time(cluster, node) for node in range(3)], [116, 16, 116])

    def test_replicas_that_are_down_and_up_again(self):
        cluster = Cluster([], [])
        begin(cluster)
        cluster.crash(1)
        self.assertEqual([known_time(cluster, node) for node in range(3)], [16, None, 16])
        cluster.restart(1)
        self.assertEqual([known_time(cluster, node) for node in range(3)], [16, 0, 16])
        copy(cluster)
        self.assertEqual([known_time(cluster, node) for node in range(3)], [16, 16, 16])

    def test_held_transactions(self):
        cluster = Cluster(PROGRAMS[:1], [], cuts=["m"])
        begin(cluster)
        round_of(cluster, cluster.push, 0)
        held = cluster.state(1).held(1)[0]
        cluster.close(3)
        copy(cluster)
        self.assertEqual([known_time(cluster, node) for node in (3, 4, 5)], [held - 1] * 3)
        handle_client(cluster, 0)
        self.assertEqual([known_time(cluster, node) for node in (3, 4, 5)], [cluster.state(1).floor] * 3)


class PeekTest(unittest.TestCase):

    def test_who_knows_a_value(self):
        cluster = Cluster(PROGRAMS, [], cuts=["m"])
        begin(cluster)
        handle_client(cluster, 0)
        handle_client(cluster, 1)
        first, second = cluster.client(0).result, cluster.client(1).result
        for node, key, time, expected in [
                (0, "a", first, (True, 1)), (0, "a", first - 1, (True, None)), (0, "a", 0, (True, None)), (2, "a", second, (True, 1)),
                (0, "a", -FAR, (True, None)), (1, "b", first, (True, None)), (1, "b", second, (True, 5)), (1, "lz", 5, (True, None)),
                (3, "p", first, (True, 2)), (3, "p", second - 1, (True, 2)), (4, "p", second, (True, None)), (5, "m", 0, (True, None)),
                (0, "p", first, (False, None)), (3, "a", first, (False, None)), (0, "m", 0, (False, None)), (3, "lz", -5, (False, None))]:
            self.assertEqual(peek(cluster, node, key, time), expected, (node, key, time))
        for node, key in [(0, "a"), (4, "p")]:
            known = known_time(cluster, node)
            self.assertEqual(peek(cluster, node, key, known)[0], True)
            for time in (known + 1, FAR):
                self.assertEqual(peek(cluster, node, key, time), (False, None))
        cluster.crash(0)
        for time in (first, 0, -1):
            self.assertEqual(peek(cluster, 0, "a", time), (False, None))
        cluster.restart(0)
        self.assertEqual(peek(cluster, 0, "a", first), (False, None))
        self.assertEqual(peek(cluster, 0, "a", 0), (True, None))
        self.assertEqual(peek(cluster, 1, "a", first), (True, 1))


class SettledTest(unittest.TestCase):

    def ready(self):
        cluster = Cluster(PROGRAMS, [], cuts=["m"])
        begin(cluster)
        handle_client(cluster, 0)
        handle_client(cluster, 1)
        return cluster

    def test_the_settled_time(self):
        cluster = self.ready()
        floors = [cluster.state(group).floor for group in (0, 1)]
        self.assertEqual(settled_time(cluster), min(floors))
        cluster.tick(500)
        for node in (0, 3):
            cluster.close(node)
            self.assertEqual(settled_time(cluster), min(floors))
        cluster.send(0, 2)
        exchange(cluster)
        self.assertEqual(settled_time(cluster), floors[1])
        cluster.send(3, 4)
        exchange(cluster)
        self.assertEqual(settled_time(cluster), cluster.now + 5)

    def test_groups_that_are_down(self):
        cluster = self.ready()
        settled = settled_time(cluster)
        for node in (3, 4):
            cluster.crash(node)
            self.assertEqual((settled_time(cluster), best_replica(cluster, 1)), (settled, node + 1))
        cluster.crash(5)
        self.assertEqual((settled_time(cluster), best_replica(cluster, 1), best_replica(cluster, 0)), (0, None, 0))
        self.assertEqual((snapshot(cluster, 0), snapshot(cluster, -1)), ([], []))
        self.assertEqual(error_of(snapshot, cluster, 1), Refused)
        cluster.restart(4)
        self.assertEqual((settled_time(cluster), best_replica(cluster, 1)), (0, 4))

    def test_the_best_replica(self):
        cluster = Cluster([], [])
        self.assertEqual(best_replica(cluster, 0), 0)
        begin(cluster)
        self.assertEqual(best_replica(cluster, 0), 0)
        cluster.crash(0)
        self.assertEqual(best_replica(cluster, 0), 1)
        cluster.restart(0)
        self.assertEqual(best_replica(cluster, 0), 1)
        cluster.tick(500)
        cluster.stand(2)
        exchange(cluster)
        cluster.send(2, 1)
        exchange(cluster)
        self.assertEqual(best_replica(cluster, 0), 2)
        cluster.send(2, 1)
        exchange(cluster)
        self.assertEqual(best_replica(cluster, 0), 1)

    def test_snapshots(self):
        cluster = self.ready()
        first, second, settled = cluster.client(0).result, cluster.client(1).result, settled_time(cluster)
        self.assertTrue(first < second <= settled)
        for time, rows in [(first - 1, []), (first, [("a", 1), ("p", 2)]), (second - 1, [("a", 1), ("p", 2)]),
                           (second, [("a", 1), ("b", 5)]), (settled, [("a", 1), ("b", 5)]), (1, []), (0, []), (-1, []), (-FAR, [])]:
            self.assertEqual(snapshot(cluster, time), rows, time)
        for time in (settled + 1, FAR):
            self.assertEqual(error_of(snapshot, cluster, time), Refused)
        snapshot(cluster, second).clear()
        self.assertEqual(snapshot(cluster, second), [("a", 1), ("b", 5)])

    def test_a_snapshot_is_taken_from_the_best_replicas(self):
        cluster = self.ready()
        for node in (0, 1, 3, 4):
            cluster.crash(node)
            cluster.restart(node)
        self.assertEqual([best_replica(cluster, group) for group in (0, 1)], [2, 5])
        self.assertEqual(snapshot(cluster, cluster.client(1).result), [("a", 1), ("b", 5)])

    def test_keys_of_several_groups_are_ascending(self):
        cluster = Cluster([[("put", key, 1) for key in ("z", "c", "m", "a", "n.")]], [], cuts=["b", "m", "n"])
        begin(cluster)
        handle_client(cluster, 0)
        self.assertEqual(snapshot(cluster, cluster.client(0).result), [("a", 1), ("c", 1), ("m", 1), ("n.", 1), ("z", 1)])


class RunsTest(unittest.TestCase):

    def test_what_is_known_stays_right(self):
        values, snapshots = {}, {}
        for seed in range(5500, 5512):
            source = dice(seed)
            cluster = some_cluster(source)
            taken, known = [], []
            for _ in long_run(source, cluster, 2000, 0.04):
                if source.random() < 0.05:
                    node, key = source.randrange(cluster.nodes), source.choice("abcmpx")
                    time = (known_time(cluster, node) or 0) + 2 - source.choice([1, 2, 3, 5, 50])
                    known.append((key, time) + peek(cluster, node, key, time))
                    moment = settled_time(cluster) - source.choice([0, 1, 3, 50])
                    taken.append((moment, snapshot(cluster, moment)))
            Operator(cluster).settle()
            for key, time, is_known, value in known:
                self.assertEqual(value, committed_rows(cluster, time).get(key) if is_known else None)
                values[is_known, value is None] = values.get((is_known, value is None), 0) + 1
            for moment, rows in taken + [(settled_time(cluster), snapshot(cluster, settled_time(cluster)))]:
                self.assertEqual(rows, sorted(committed_rows(cluster, moment).items()))
                snapshots[len(rows)] = snapshots.get(len(rows), 0) + 1
        self.assertTrue(values[True, False] > 50 and values[False, True] > 50 and len(snapshots) > 3, (values, snapshots))


if __name__ == "__main__":
    unittest.main()
