"""Point 56: feeds."""

import unittest

from meridian.views.feeds import Feed
from meridian.views.snapshots import settled_time
from meridian.world.cluster import Cluster
from meridian.world.operator import Operator
from tests.clusters import long_run, some_cluster
from tests.helpers import dice
from tests.smooth import begin, handle_client

PROGRAMS = [[("put", "p", 1), ("put", "a", 2)], [("drop", "p"), ("put", "x", 3)], [("read", "a")], [("put", "a", 5), ("need", "a", 6)],
            [("add", "a", 1)]]


def changes_of(cluster, after, upto):
    """Return the writes of the transactions committed in a time, in the order of time and key."""
    found = [(deed[4], key, value) for deed in cluster.history() for key, value in deed[6] if after < deed[4] <= upto]
    return sorted(found, key=lambda change: change[:2])


def close_all(cluster):
    """Let all groups be settled up to the present."""
    for node in range(cluster.nodes):
        cluster.close(node)
    operator = Operator(cluster)
    operator.spread()


class FeedTest(unittest.TestCase):

    def ready(self):
        cluster = Cluster(PROGRAMS, [], cuts=["m"])
        begin(cluster)
        return cluster

    def test_a_new_feed(self):
        feed = Feed()
        self.assertEqual(feed.done, 0)
        self.assertEqual((feed.pull(Cluster([], [])), feed.done), ([], 0))

    def test_pulls_in_turn(self):
        cluster = self.ready()
        feed = Feed()
        self.assertEqual(feed.pull(cluster), [])
        self.assertEqual(feed.done, settled_time(cluster))
        handle_client(cluster, 0)
        first = cluster.client(0).result
        close_all(cluster)
        self.assertEqual(feed.pull(cluster), [(first, "a", 2), (first, "p", 1)])
        self.assertEqual((feed.pull(cluster), feed.done), ([], settled_time(cluster)))
        for index in (1, 2, 3, 4):
            handle_client(cluster, index)
        second, third = cluster.client(1).result, cluster.client(4).result
        close_all(cluster)
        self.assertEqual(feed.pull(cluster), [(second, "p", None), (second, "x", 3), (third, "a", 3)])
        self.assertEqual(Feed().pull(cluster), [(first, "a", 2), (first, "p", 1), (second, "p", None), (second, "x", 3), (third, "a", 3)])

    def test_changes_at_the_edges_of_a_pull(self):
        cluster = self.ready()
        feed, late = Feed(), Feed()
        feed.pull(cluster)
        handle_client(cluster, 0)
        time = cluster.client(0).result
        # The groups are settled up to the very time of the transaction.
        self.assertEqual(settled_time(cluster), time)
        self.assertEqual([change[1] for change in feed.pull(cluster)], ["a", "p"])
        self.assertEqual(feed.done, time)
        cluster.tick(1000)
        close_all(cluster)
        self.assertEqual(feed.pull(cluster), [])
        self.assertEqual([change[1] for change in late.pull(cluster)], ["a", "p"])

    def test_done_never_falls(self):
        cluster = self.ready()
        feed = Feed()
        handle_client(cluster, 0)
        feed.pull(cluster)
        done = feed.done
        self.assertTrue(done > 0)
        for node in (3, 4, 5):
            cluster.crash(node)
            self.assertEqual((feed.pull(cluster), feed.done), ([], done))
        new = Feed()
        self.assertEqual((new.pull(cluster), new.done), ([], 0))
        for node in range(3):
            cluster.crash(node)
        self.assertEqual((feed.pull(cluster), feed.done), ([], done))
        for node in range(6):
            cluster.restart(node)
            self.assertEqual((feed.pull(cluster), feed.done), ([], done))
        operator = Operator(cluster)
        operator.settle()
        time = feed.done
        self.assertEqual(feed.pull(cluster), changes_of(cluster, time, settled_time(cluster)))
        self.assertTrue(feed.done > done)

    def test_what_is_returned_may_be_changed(self):
        cluster = self.ready()
        handle_client(cluster, 0)
        feed, other = Feed(), Feed()
        feed.pull(cluster).clear()
        self.assertEqual(len(other.pull(cluster)), 2)

    def test_long_runs(self):
        many = 0
        for seed in range(5600, 5616):
            source = dice(seed)
            cluster = some_cluster(source, bound=source.choice([1, 5]))
            feeds = [Feed(), Feed()]
            pulled = [[], []]
            for _ in long_run(source, cluster, 1200, 0.04):
                for feed, found, odds in zip(feeds, pulled, (0.05, 0.004)):
                    if source.random() < odds:
                        done, settled = feed.done, settled_time(cluster)
                        found.append(feed.pull(cluster))
                        self.assertEqual(feed.done, max(done, settled))
            operator = Operator(cluster)
            operator.settle()
            close_all(cluster)
            for feed, found in zip(feeds, pulled):
                self.assertEqual([change for one in found for change in one], changes_of(cluster, 0, feed.done))
                found.append(feed.pull(cluster))
                self.assertEqual([change for one in found for change in one], changes_of(cluster, 0, cluster.now + 99))
                many += len([one for one in found if one != []])
        self.assertTrue(many > 40, many)


if __name__ == "__main__":
    unittest.main()
