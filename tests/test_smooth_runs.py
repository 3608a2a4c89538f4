"""Point 60: smooth runs."""

import unittest

from meridian.deals.programs import put_rows, run_alone
from meridian.views.snapshots import settled_time, snapshot
from meridian.world.cluster import Cluster
from meridian.world.judge import is_consistent
from tests.clusters import NAMES, some_program
from tests.helpers import dice
from tests.smooth import run_smoothly

SHAPES = [([], 1, 0), ([], 3, 5), (["m"], 2, 1), (["m"], 3, 5), (["b", "n"], 3, 0), (["b", "c", "p"], 1, 20), (["b", "n"], 5, 3),
          (["a", "b", "c", "m", "p", "x"], 3, 5), ([], 4, 2)]


class SmoothRunTest(unittest.TestCase):

    def check(self, programs, lookups, cuts, size, bound):
        """Run a new cluster smoothly, and return which clients have committed and how many rounds there were to spare."""
        cluster = Cluster(programs, lookups, cuts=cuts, size=size, bound=bound)
        rounds_of_clients, rounds_of_readers = run_smoothly(cluster)
        rows, times, done = {}, [], []
        for index, program in enumerate(programs):
            got, writes, completed = run_alone(rows, program)
            client = cluster.client(index)
            self.assertEqual((client.phase, client.got()), ("ended", got))
            self.assertTrue(1 <= rounds_of_clients[index] <= len(program) + 4)
            if completed:
                rows = put_rows(rows, writes)
                times.append((index + 1, client.result))
            else:
                self.assertEqual(client.result, 0)
            done.append(completed)
        self.assertEqual(cluster.committed(), times)
        for index, keys in enumerate(lookups):
            self.assertTrue(1 <= rounds_of_readers[index] <= len(keys) + 2)
            self.assertEqual(cluster.reader(index).phase, "ended")
            self.assertEqual(cluster.reader(index).got(), [(key, rows.get(key)) for key in keys])
        self.assertTrue(is_consistent(cluster.history()))
        last = max([time for _, time in times], default=0)
        if last <= settled_time(cluster):
            self.assertEqual(snapshot(cluster, settled_time(cluster)), sorted(rows.items()))
        return done

    def test_drawn_programs(self):
        done = []
        for seed in range(6000, 6036):
            source = dice(seed)
            programs = [some_program(source) for _ in range(source.randrange(1, 9))]
            lookups = [sorted(source.sample(NAMES, source.randrange(1, 7))) for _ in range(source.randrange(4))]
            done += self.check(programs, lookups, *SHAPES[seed % len(SHAPES)])
        self.assertTrue(done.count(True) > 60 and done.count(False) > 20)

    def test_no_clients_and_no_readers(self):
        for shape in SHAPES:
            self.check([], [], *shape)

    def test_each_operation(self):
        programs = [[("put", "a", 7), ("put", "x", 1)], [("read", "x")], [("add", "b", -2)], [("copy", "a", "c")], [("drop", "x")],
                    [("need", "a", 7)], [("need", "a", 8)], [("equal", "x", None)], [("equal", "x", 1)], [("copy", "x", "a")],
                    [("add", "b", 1), ("add", "b", 1), ("need", "b", 0), ("copy", "b", "p"), ("read", "c"), ("drop", "c")]]
        for shape in SHAPES:
            done = self.check(programs, [list(NAMES), ["q"]], *shape)
            self.assertEqual(done, [True] * 6 + [False, True, False, True, True])

    def test_programs_that_give_up(self):
        programs = [[("put", "a", 1), ("need", "a", 2)], [("need", "a", 2)], [("read", "a"), ("read", "x"), ("equal", "x", 4)]]
        for shape in SHAPES:
            self.assertEqual(self.check(programs, [["a"]], *shape), [False] * 3)


if __name__ == "__main__":
    unittest.main()
