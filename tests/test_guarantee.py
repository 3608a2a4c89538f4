"""Points 52 and 53, the main guarantee, and point 34 once more, in long runs of clusters."""

import unittest

from meridian.deals.programs import advance
from meridian.world.cluster import Cluster
from meridian.world.judge import is_consistent, replay, respects, seen_by, time_order, times_agree
from tests import test_fabric_runs
from tests.clusters import NAMES, WEIGHTS, Run, clients_of, long_run, readers_of, some_program
from tests.helpers import dice
from tests.smooth import begin, handle_client
from tests.watches import Watch

SHAPES = [(["m"], 3, 5), (["b", "n"], 3, 1), (["b", "c", "p"], 1, 20), ([], 3, 0), (["m"], 2, 20), (["b", "n"], 3, 20), ([], 5, 1),
          (["m"], 4, 5)]


def drawn_cluster(source, shape, clients=20, readers=10):
    """Return a cluster with drawn programs, and the programs."""
    cuts, size, bound = shape
    programs = [some_program(source) for _ in range(clients)]
    lookups = [sorted(source.sample(NAMES, source.randrange(1, 5))) for _ in range(readers)]
    return Cluster(programs, lookups, cuts=cuts, size=size, bound=bound), programs


class GuaranteeTest(unittest.TestCase):

    def setUp(self):
        self.ends = {}

    def note_ends(self, cluster):
        """Count how clients and readers ended."""
        for client in clients_of(cluster):
            word = client.phase
            if client.result == 0:
                word = "gave up" if advance(client.program, client.got()) == ("give_up",) else "refused"
            self.ends[word] = self.ends.get(word, 0) + 1
        for reader in readers_of(cluster):
            self.ends["reader", reader.phase] = self.ends.get(("reader", reader.phase), 0) + 1

    def check_history(self, cluster):
        deeds = cluster.history()
        order = time_order(deeds)
        self.assertTrue(is_consistent(deeds) and times_agree(deeds) and respects(deeds, order))
        self.assertIsNotNone(replay(deeds, order))
        for index, deed in enumerate(deeds):
            for (key, value), writer in zip(deed[5], seen_by(deeds, index)):
                self.assertEqual(value, None if writer is None else dict(deeds[writer][6])[key])

    def test_long_runs(self):
        for seed in range(7000, 7040):
            source = dice(seed)
            cluster, programs = drawn_cluster(source, SHAPES[seed % len(SHAPES)])
            watch = Watch(self, cluster, programs)
            for _ in long_run(source, cluster, 2000, source.choice([0, 0.02, 0.05])):
                watch.look()
            self.check_history(cluster)
            self.note_ends(cluster)
        self.assertTrue(self.ends["ended"] > 60 and self.ends["refused"] > 60 and self.ends["gave up"] > 50, self.ends)
        self.assertTrue(self.ends["reader", "ended"] > 120, self.ends)

    def test_runs_with_many_crashes_and_elections(self):
        weights = {**WEIGHTS, "crash": 25, "restart": 120, "stand": 40, "tick": 90}
        for seed in range(7100, 7120):
            source = dice(seed)
            cluster, programs = drawn_cluster(source, SHAPES[seed % len(SHAPES)])
            watch = Watch(self, cluster, programs)
            for _ in Run(source, cluster, weights=weights, bursts=0.03, splits=0.02).steps(2000):
                watch.look()
            self.check_history(cluster)
            self.note_ends(cluster)
        self.assertTrue(self.ends["ended"] > 30 and self.ends["refused"] > 100, self.ends)

    def test_point_34_with_transactions(self):
        for seed in range(7200, 7206):
            source = dice(seed)
            cluster, _ = drawn_cluster(source, SHAPES[seed % 3])
            watch = test_fabric_runs.Watch(self, cluster.fabric)
            for _ in long_run(source, cluster, 1500, 0):
                watch.look()
            watch.check()


class TransferTest(unittest.TestCase):

    ACCOUNTS = ("a", "p", "x")
    # Clocks that are very wrong while little time passes, and few elections.
    WEIGHTS = {**WEIGHTS, "deliver": 600, "tick": 20, "drift": 60, "stand": 3, "crash": 3, "ask": 4}

    def transfer(self, source):
        one, other = source.sample(self.ACCOUNTS, 2)
        many = source.randrange(1, 40)
        return [("need", one, many), ("add", one, -many), ("add", other, many)]

    def test_readers_see_all_of_a_transaction_or_nothing(self):
        sums = {}
        moves = 0
        for seed in range(7300, 7340):
            source = dice(seed)
            programs = [[("put", key, 100) for key in self.ACCOUNTS]] + [self.transfer(source) for _ in range(20)]
            cluster = Cluster(programs, [list(self.ACCOUNTS)] * 25, cuts=source.choice([["m"], ["m", "x"]]),
                              size=source.choice([1, 1, 3]), bound=source.choice([20, 50]))
            watch = Watch(self, cluster, programs)
            if seed % 4 > 0:
                begin(cluster)
                handle_client(cluster, 0)
            for _ in Run(source, cluster, weights=self.WEIGHTS, bursts=0.05, splits=0.02).steps(2500):
                watch.look()
            for reader in readers_of(cluster):
                if len(reader.got()) == len(self.ACCOUNTS):
                    values = [value for _, value in reader.got()]
                    found = None if values == [None] * len(values) else sum(values)
                    sums[found] = sums.get(found, 0) + 1
            moves += len(cluster.committed()) - 1
        self.assertEqual(set(sums), {None, 300})
        self.assertTrue(min(sums.values()) > 15 and sums[300] > 60 and moves > 20, (sums, moves))


if __name__ == "__main__":
    unittest.main()
