"""Point 34: what always holds in a fabric."""

import unittest

from meridian.quorum.fabric import Fabric
from meridian.quorum.replicas import LEADER
from tests.helpers import dice
from tests.runs import WEIGHTS, act, exchange, fabric_view


class Watch:
    """Looks at a fabric after each action, and remembers what point 34 speaks of."""

    def __init__(self, test, fabric):
        self.test = test
        self.fabric = fabric
        self.leaders = {}
        self.logs = {}
        self.births = {}
        self.openings = {}
        self.lease_ends = {}
        self.sure = {}
        self.chronicles = {group: [] for group in range(fabric.groups)}

    def look(self):
        for group in range(self.fabric.groups):
            holders = 0
            for node in self.fabric.members(group):
                replica = self.fabric.replica(node)
                self.look_at_sure_entries(group, replica)
                if replica.role == LEADER:
                    self.look_at_leader(group, replica)
                    holders += replica.lease_end >= self.fabric.now
            self.test.assertTrue(holders <= 1)

    def look_at_sure_entries(self, group, replica):
        entries = replica.sure_entries()
        chronicle = self.chronicles[group]
        common = min(len(entries), len(chronicle))
        self.test.assertEqual(entries[:common], chronicle[:common])
        if len(entries) > len(chronicle):
            self.chronicles[group] = entries
        # The least term at which so many entries were sure, since later leaders must have them.
        for length in range(len(entries), 0, -1):
            if self.sure.get((group, length), replica.term + 1) <= replica.term:
                break
            self.sure[group, length] = replica.term

    def look_at_leader(self, group, replica):
        place = (group, replica.term)
        self.test.assertEqual(self.leaders.setdefault(place, replica.address), replica.address)
        log = replica.journal.entries()
        known = self.logs.get(place, [])
        self.test.assertEqual(log[:len(known)], known)
        self.logs[place] = log
        if place not in self.openings:
            self.births[place] = log
            term, record = [entry for entry in log if entry[0] == replica.term][0]
            self.test.assertEqual(record[0], "floor")
            self.openings[place] = record[1]
        self.lease_ends[place] = max(self.lease_ends.get(place, 0), replica.lease_end)

    def check(self):
        """Check what can be said only at the end of a run."""
        for (group, term), log in self.births.items():
            for (other, length), least in self.sure.items():
                if group == other and least < term:
                    self.test.assertEqual(log[:length], self.chronicles[group][:length])
            for (other, earlier), end in self.lease_ends.items():
                if group == other and earlier < term:
                    self.test.assertTrue(self.openings[group, term] > end)


class RunsTest(unittest.TestCase):

    def test_long_runs(self):
        seen = {}
        most = {"leaders": 0, "sure": 0, "leases": 0}
        for seed, (groups, size, bound) in enumerate([(1, 1, 5), (1, 2, 5), (1, 3, 5), (1, 3, 0), (2, 3, 20), (1, 4, 5),
                                                      (1, 5, 5), (2, 2, 1), (1, 3, 40)]):
            source = dice(3400 + seed)
            fabric = Fabric(groups, size, bound, guests=1)
            watch = Watch(self, fabric)
            for _ in range(2500):
                word, done = self.act(source, fabric)
                seen[word, done] = seen.get((word, done), 0) + 1
                watch.look()
            watch.check()
            most["leaders"] += len(watch.leaders)
            most["sure"] += sum(len(entries) for entries in watch.chronicles.values())
            most["leases"] += sum(end > 0 for end in watch.lease_ends.values())
        for word in WEIGHTS:
            self.assertTrue(seen[word, True] > 40, (word, seen[word, True]))
        self.assertTrue(most["leaders"] > 40 and most["sure"] > 150 and most["leases"] > 15, most)

    def act(self, source, fabric):
        if source.random() < 0.01:
            for node in range(fabric.nodes):
                fabric.send(node, source.randrange(fabric.nodes))
            exchange(fabric)
        return act(source, fabric)

    def test_what_is_impossible_changes_nothing(self):
        source = dice(3450)
        fabric = Fabric(2, 3, 5, guests=1)
        many = 0
        for _ in range(1500):
            before = fabric_view(fabric)
            _, done = act(source, fabric)
            if not done:
                self.assertEqual(fabric_view(fabric), before)
                many += 1
        self.assertTrue(many > 100)


if __name__ == "__main__":
    unittest.main()
