"""Point 67 and the last sentence of point 58: the index of a table in every snapshot of a cluster."""

import unittest

from meridian.views.snapshots import settled_time, snapshot
from meridian.views.stages import StagedTable, fill_program, holds_at, purge_program
from meridian.views.tables import Table
from meridian.world.cluster import Cluster
from meridian.world.operator import Operator
from tests.clusters import Run, clients_of
from tests.helpers import dice
from tests.test_feeds import close_all
from tests.watches import Watch

T = Table("t")
OTHER = Table("tt")

# Rows and entries of the table stand in different groups, or entries stand in several ones.
CUTS = (["t/"], ["t.i/1", "t/"], ["t.i/1", "t.i/2", "t/b"], [])


def some_program(source, tables, extra=()):
    """Return a program of one of some tables, or one of the extra ones."""
    primary, old, new = source.choice("ab"), source.randrange(2), source.randrange(3)
    table = source.choice(tables)
    programs = [table.insert(primary, old), table.insert(primary, old), table.update(primary, old, new), table.delete(primary, old)]
    return source.choice(programs + [make(T, primary, old) for make in extra])


class IndexRunsTest(unittest.TestCase):

    def setUp(self):
        self.rows = {}

    def run_cluster(self, source, programs, holds):
        """Run a cluster with crashes and losses; the index must hold in every snapshot."""
        cluster = Cluster(programs, [["t/a"], ["t/b"]], cuts=source.choice(CUTS), size=source.choice([1, 3, 3]), bound=source.choice([1, 5]))
        watch = Watch(self, cluster, programs)
        for _ in Run(source, cluster, bursts=0.06, splits=0.005).steps(500):
            if source.random() < 0.02:
                self.assertTrue(holds(snapshot(cluster, settled_time(cluster))))
        operator = Operator(cluster)
        for index in range(len(programs)):
            if source.random() < 0.3:
                operator.wake()
                operator.pass_time()
                operator.elect()
                operator.level()
                operator.finish(index)
        operator.settle()
        watch.look()
        close_all(cluster)
        times = [time for _, time in cluster.committed()]
        for time in sorted(set(times + [time - 1 for time in times] + [0, 1, settled_time(cluster)])):
            pairs = snapshot(cluster, time)
            self.assertTrue(holds(pairs), (time, pairs))
            place = (len(T.rows(pairs)), len(T.entries(pairs)))
            self.rows[place] = self.rows.get(place, 0) + 1
        return len([client for client in clients_of(cluster) if client.result > 0])

    def test_programs_of_the_table(self):
        many = 0
        for seed in range(8500, 8520):
            source = dice(seed)
            programs = [some_program(source, [T, T, T, OTHER]) for _ in range(14)]
            many += self.run_cluster(source, programs, lambda pairs: T.agrees(pairs) and OTHER.agrees(pairs))
        self.assertTrue(many > 50 and set(self.rows) == {(0, 0), (1, 1), (2, 2)}, (many, self.rows))

    def staged(self, low, extra, seeds):
        many = 0
        for seed in seeds:
            source = dice(seed)
            tables = [StagedTable(T, low), StagedTable(T, low + 1)]
            programs = [some_program(source, tables, extra) for _ in range(14)]
            many += self.run_cluster(source, programs, lambda pairs: holds_at(T, low, pairs))
        self.assertTrue(many > 20, many)

    def test_absent_and_delete_with_purges(self):
        self.staged(0, [purge_program], range(8530, 8542))
        self.assertEqual({entries for _, entries in self.rows}, {0})

    def test_delete_and_write_with_fills_and_purges(self):
        self.staged(1, [fill_program, purge_program], range(8550, 8566))
        self.assertTrue({(1, 0), (1, 1), (2, 0), (2, 1), (2, 2)} <= set(self.rows), self.rows)

    def test_write_and_public_with_fills(self):
        self.staged(2, [fill_program], range(8570, 8582))
        self.assertTrue({(1, 1), (2, 2)} <= set(self.rows) and all(rows == entries for rows, entries in self.rows), self.rows)


if __name__ == "__main__":
    unittest.main()
