"""Points 62 and 63: whatever happened to a cluster, the operator brings it to rest."""

import unittest

from meridian.deals.programs import advance, put_rows, run_alone
from meridian.world.cluster import Cluster
from meridian.world.judge import is_consistent
from meridian.world.operator import Operator
from tests.clusters import WEIGHTS, Run, clients_of, committed_rows, guests_of, leaders_of, readers_of
from tests.helpers import dice
from tests.test_guarantee import SHAPES, drawn_cluster
from tests.watches import Watch

FAR = 10 ** 40


class ProgressTest(unittest.TestCase):

    def check_rest(self, cluster, operator):
        """Check each sentence of point 63 but the last one."""
        for guest in guests_of(cluster):
            self.assertEqual(guest.phase, "ended")
        for group in range(cluster.fabric.groups):
            members = cluster.fabric.members(group)
            leaders = [node for node in leaders_of(cluster) if node in members]
            self.assertEqual(leaders, [operator.chief(group)])
            self.assertTrue(cluster.service(leaders[0]).is_ready)
            entries = cluster.fabric.replica(leaders[0]).journal.entries()
            self.assertEqual(cluster.chronicle(group), entries)
            for node in members:
                replica = cluster.fabric.replica(node)
                self.assertEqual((replica.journal.entries(), replica.sure_entries()), (entries, entries))
                self.assertEqual(replica.outbox(), [])
                self.assertEqual(cluster.service(node).locks(), [])
                self.assertEqual(cluster.service(node).full_state().all_held(), [])
            self.assertEqual(cluster.state(group).all_held(), [])
        self.assertEqual(len(cluster.fabric.network), 0)

    def check_fresh(self, cluster, fresh, programs):
        """A transaction whose client had not begun does what its program says."""
        times = dict(cluster.committed())
        for index in fresh:
            client = cluster.client(index)
            if client.txn in times:
                got, _, completed = run_alone(committed_rows(cluster, times[client.txn] - 1), programs[index])
                self.assertTrue(completed)
                self.assertEqual((got, times[client.txn]), (client.got(), client.result))
            else:
                self.assertEqual(advance(programs[index], client.got()), ("give_up",))

    def check_alone(self, cluster, index, program, rows):
        """Check that a client has done what its program does alone on these rows."""
        got, writes, completed = run_alone(rows, program)
        client = cluster.client(index)
        self.assertEqual((client.got(), client.result > 0), (got, completed))
        self.assertEqual(committed_rows(cluster, FAR), put_rows(rows, writes))

    def test_after_long_runs(self):
        seen = {}
        for seed in range(8000, 8060):
            source = dice(seed)
            cluster, programs = drawn_cluster(source, SHAPES[seed % len(SHAPES)], clients=source.randrange(8), readers=source.randrange(6))
            watch = Watch(self, cluster, programs)
            if programs and readers_of(cluster):
                weights = {**WEIGHTS, "crash": source.choice([0, 6, 30]), "restart": source.choice([5, 30])}
                for _ in Run(source, cluster, weights=weights, bursts=source.choice([0, 0.02]), splits=0.02).steps(
                        source.choice([10, 100, 400, 1500])):
                    pass
            begun = [client.phase for client in clients_of(cluster)]
            down = sum(not cluster.fabric.is_up(node) for node in range(cluster.nodes))
            operator = Operator(cluster)
            operator.settle()
            self.check_rest(cluster, operator)
            watch.look()
            self.assertTrue(is_consistent(cluster.history()))
            self.check_fresh(cluster, [index for index, phase in enumerate(begun) if phase == "new"], programs)
            for phase in begun + [("down", down > 0)]:
                seen[phase] = seen.get(phase, 0) + 1
        for phase in ("new", "reading", "preparing", "committing", "ended", ("down", True), ("down", False)):
            self.assertTrue(seen[phase] > 2, seen)

    def test_numbers_of_rounds(self):
        for seed in range(8100, 8120):
            source = dice(seed)
            cluster, programs = drawn_cluster(source, SHAPES[seed % len(SHAPES)], clients=6, readers=4)
            for _ in Run(source, cluster, splits=0.02).steps(source.choice([50, 300, 900])):
                pass
            operator = Operator(cluster)
            for step in (operator.wake, operator.exchange, operator.pass_time, operator.elect, operator.level):
                step()
            ended = [guest.phase == "ended" for guest in guests_of(cluster)]
            for index, program in enumerate(programs):
                is_new = cluster.client(index).phase == "new"
                operator.release(spare=index)
                rows = committed_rows(cluster, FAR)
                rounds = operator.finish(index)
                self.assertTrue(rounds == 0 if ended[index] else rounds <= len(program) + 6)
                self.assertEqual((cluster.client(index).phase, operator.finish(index)), ("ended", 0))
                if is_new:
                    self.check_alone(cluster, index, program, rows)
            operator.release()
            for index, reader in enumerate(readers_of(cluster)):
                rounds = operator.see(index)
                self.assertTrue(rounds == 0 if ended[len(programs) + index] else 1 <= rounds <= len(reader.wanted) + 3)
                self.assertEqual((reader.phase, operator.see(index)), ("ended", 0))
            self.check_rest(cluster, operator)

    def test_settling_again(self):
        for seed in range(8200, 8210):
            source = dice(seed)
            cluster, programs = drawn_cluster(source, SHAPES[seed % len(SHAPES)])
            watch = Watch(self, cluster, programs)
            operator = Operator(cluster)
            for _ in range(3):
                run = Run(source, cluster, splits=0.02)
                for _ in run.steps(150):
                    watch.look()
                operator.settle()
                self.check_rest(cluster, operator)
                watch.look()

    def test_a_new_cluster_and_one_that_is_down(self):
        for cuts, size, bound in SHAPES:
            programs = [[("put", "a", 1)], [("add", "a", 1), ("put", "p", 2)], [("need", "p", 3)]]
            cluster = Cluster(programs, [["a", "p"]], cuts=cuts, size=size, bound=bound)
            for node in range(cluster.nodes):
                cluster.crash(node)
            operator = Operator(cluster)
            operator.settle()
            self.check_rest(cluster, operator)
            self.assertEqual([txn for txn, _ in cluster.committed()], [1, 2])
            self.assertEqual(cluster.reader(0).got(), [("a", 2), ("p", 2)])


if __name__ == "__main__":
    unittest.main()
