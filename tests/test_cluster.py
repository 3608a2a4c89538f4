"""Points 49 and 50: clusters and their actions, and the errors of the constructor."""

import unittest

from meridian.clients.clients import Client
from meridian.clients.readers import Reader
from meridian.deals.service import Service
from meridian.errors import BadArgument
from meridian.quorum.fabric import Fabric
from meridian.world.cluster import Cluster
from tests.clusters import WEIGHTS, act, arguments, cluster_view, exchange, some_cluster
from tests.helpers import dice, error_of
from tests.runs import fabric_view
from tests.smooth import begin, copy

PUT = [("put", "a", 1)]
FAR = 10 ** 40


class BeginningTest(unittest.TestCase):

    def test_a_new_cluster(self):
        cluster = Cluster([PUT, PUT], [["a"]], cuts=["b", "m"], size=2, bound=7)
        fabric = cluster.fabric
        self.assertIsInstance(fabric, Fabric)
        self.assertEqual((fabric.groups, fabric.size, fabric.nodes, fabric.addresses), (3, 2, 6, 9))
        self.assertEqual((cluster.now, cluster.nodes, cluster.steps), (0, 6, 0))
        self.assertEqual((fabric.span(8).low, fabric.span(8).high), (-7, 7))
        self.assertEqual((cluster.history(), cluster.committed(), cluster.chronicle(2)), ([], [], []))

    def test_what_is_left_out(self):
        cluster = Cluster([], [])
        self.assertEqual((cluster.fabric.groups, cluster.fabric.size, cluster.nodes, cluster.fabric.addresses), (1, 3, 3, 3))
        self.assertEqual((cluster.fabric.span(0).low, cluster.fabric.span(0).high), (-5, 5))

    def test_clients_readers_and_services(self):
        cluster = Cluster([PUT, [("drop", "b")]], [["a"], ["b", "c"]])
        for index in (0, 1):
            self.assertIsInstance(cluster.client(index), Client)
            self.assertIsInstance(cluster.reader(index), Reader)
            self.assertEqual((cluster.client(index).txn, cluster.reader(index).number), (index + 1, index))
        for node in range(3):
            self.assertIsInstance(cluster.service(node), Service)
            self.assertIs(cluster.service(node), cluster.service(node))
        self.assertIs(cluster.client(1), cluster.client(1))
        self.assertIs(cluster.reader(1), cluster.reader(1))
        for index in (-1, 2, FAR):
            self.assertEqual(error_of(cluster.client, index), BadArgument)
            self.assertEqual(error_of(cluster.reader, index), BadArgument)
            self.assertEqual(error_of(cluster.span_of_client, index), BadArgument)
            self.assertEqual(error_of(cluster.span_of_reader, index), BadArgument)
        for node in (-1, 3, 6, FAR):
            self.assertEqual(error_of(cluster.service, node), BadArgument)

    def test_addresses(self):
        cluster = Cluster([PUT, [("read", "p")]], [["a"], ["q"]], cuts=["m"])
        cluster.push(0)
        cluster.push(1)
        cluster.look(0)
        cluster.look(1)
        pairs = [(sender, to) for sender, to, _ in cluster.fabric.network]
        self.assertEqual(pairs, [(6, 0), (6, 1), (6, 2), (7, 3), (7, 4), (7, 5), (8, 0), (8, 1), (8, 2), (9, 3), (9, 4), (9, 5)])
        letters = [cluster.fabric.take(0)[2] for _ in range(12)]
        self.assertEqual(letters[::3], [("prepare", 1, 0, 0, (), (("a", 1),)), ("read", 2, "p", 0),
                                        ("look", 0, "a", 5), ("look", 1, "q", 5)])

    def test_bad_arguments(self):
        good = {"programs": [PUT], "lookups": [["a", "b"]], "cuts": ["b"], "size": 1, "bound": 0}
        bad = [("cuts", [""]), ("cuts", ["", "b"]), ("cuts", ["B"]), ("cuts", ["b", "b"]), ("cuts", ["c", "b"]),
               ("programs", [[]]), ("programs", [PUT, []]), ("programs", [[("pull", "a")]]), ("programs", [[("put", "", 1)]]),
               ("programs", [[("copy", "a", "A")]]), ("lookups", [[]]), ("lookups", [["a"], []]), ("lookups", [[""]]),
               ("lookups", [["", "b"]]), ("lookups", [["a_b"]]), ("lookups", [["b", "a"]]), ("lookups", [["a", "a"]]),
               ("size", 0), ("size", -1), ("bound", -1), ("bound", -FAR)]

        def build(arguments):
            return Cluster(arguments["programs"], arguments["lookups"], cuts=arguments["cuts"], size=arguments["size"],
                           bound=arguments["bound"])

        self.assertIsInstance(build(good), Cluster)
        for word, value in bad:
            self.assertEqual(error_of(build, {**good, word: value}), BadArgument, (word, value))

    def test_what_is_handed_in_may_be_changed(self):
        programs, lookups, cuts = [[("put", "n", 1)]], [["a", "n"]], ["m"]
        cluster = Cluster(programs, lookups, cuts=cuts)
        for given in (programs[0], programs, lookups[0], lookups, cuts):
            given.clear()
        self.assertTrue(cluster.push(0) and cluster.look(0))
        self.assertEqual([to for _, to, _ in cluster.fabric.network], [3, 4, 5, 0, 1, 2])


class ActionTest(unittest.TestCase):

    def ready(self, **named):
        cluster = Cluster([PUT, [("read", "a")]], [["a"]], **named)
        begin(cluster)
        return cluster

    def check(self, cluster, performed, act, *args):
        """Perform an action that is possible or not; an impossible one must change nothing."""
        before = cluster_view(cluster)
        self.assertIs(act(*args), performed, args)
        if performed:
            self.assertEqual(cluster.steps, before["steps"] + 1)
        else:
            self.assertEqual(cluster_view(cluster), before)

    def test_actions_of_the_fabric(self):
        # What a fabric does alone is what it does in a cluster, as long as no client acts.
        source = dice(5000)
        words = [word for word in WEIGHTS if word not in ("push", "look", "close", "ask")]
        cluster, fabric = Cluster([PUT], [], cuts=["m"]), Fabric(2, 3, 5, guests=1)
        steps = 0
        seen = {}
        for _ in range(2500):
            word = source.choices(words, [WEIGHTS[one] for one in words])[0]
            args = arguments(source, cluster, word)
            done = getattr(cluster, word)(*args)
            self.assertIs(getattr(fabric, word)(*args), done, (word, args))
            steps += done
            seen[word, done] = seen.get((word, done), 0) + 1
            self.assertEqual((cluster.now, cluster.steps), (fabric.now, steps))
        self.assertEqual(fabric_view(cluster.fabric), fabric_view(fabric))
        self.assertTrue(min(seen.get((word, True), 0) for word in words) > 3, seen)

    def test_the_defaults_of_a_crash(self):
        cluster = self.ready()
        cluster.close(0)
        entries = cluster.fabric.replica(0).journal.entries()
        self.check(cluster, True, cluster.crash, 0)
        self.assertEqual(cluster.fabric.replica(0).journal.entries(), entries[:-1])

    def test_impossible_actions_of_the_fabric(self):
        cluster = self.ready()
        cluster.crash(2)
        cluster.push(0)
        impossible = [("tick", 0), ("tick", -5), ("drift", -1, 0), ("drift", 6, 0), ("drift", 0, 6), ("drift", 0, -6),
                      ("stand", 0), ("stand", 2), ("stand", -1), ("stand", 3), ("flush", 2), ("flush", 5), ("deliver", 3),
                      ("deliver", -1), ("lose", 3), ("lose", -1), ("double", 3), ("double", -1), ("damage", 3, 0, 1),
                      ("damage", 0, -1, 1), ("damage", 0, 999, 1), ("damage", 0, 0, 0), ("damage", 0, 0, 256),
                      ("crash", 2), ("crash", 0, -1), ("crash", 0, 999), ("crash", 0, 0, 256), ("crash", 3), ("restart", 0),
                      ("restart", 3), ("send", 0, 0), ("send", 1, 0), ("send", 2, 0), ("send", 0, 3), ("lease", 0, -1),
                      ("lease", 1, 5), ("lease", 2, 5), ("lease", 9, 5)]
        for word, *args in impossible:
            self.check(cluster, False, getattr(cluster, word), *args)
        self.check(cluster, True, cluster.damage, 0, 0, 1)
        self.check(cluster, False, cluster.damage, 0, 1, 1)

    def test_close(self):
        cluster = self.ready()
        cluster.crash(2)
        for node in (1, 2, 3, -1, FAR):
            self.check(cluster, False, cluster.close, node)
        cluster.drift(0, 4)
        many = len(cluster.fabric.replica(0).journal)
        cluster.tick(100)
        self.check(cluster, True, cluster.close, 0)
        self.assertEqual(cluster.fabric.replica(0).journal.entries()[many:], [(1, ("floor", cluster.now + 4 + 5))])
        cluster.crash(0)
        self.check(cluster, False, cluster.close, 0)

    def test_ask(self):
        cluster = self.ready()
        cluster.crash(2)
        cluster.push(1)
        exchange(cluster)
        self.assertEqual(cluster.service(0).locks(), [("a", 2, False)])
        for node, txn in [(0, 1), (0, 3), (0, 0), (0, -1), (0, FAR), (1, 2), (2, 2), (3, 2), (-1, 2)]:
            self.check(cluster, False, cluster.ask, node, txn)
        self.check(cluster, True, cluster.ask, 0, 2)
        self.assertEqual((cluster.service(0).locks(), cluster.service(0).shut()), ([], [2]))
        self.check(cluster, False, cluster.ask, 0, 2)

    def test_push(self):
        cluster = self.ready()
        for index in (-1, 2, 3, FAR):
            self.check(cluster, False, cluster.push, index)
        phases = []
        while cluster.client(0).phase != "ended":
            phases.append(cluster.client(0).phase)
            self.check(cluster, True, cluster.push, 0)
            self.assertEqual([(sender, to) for sender, to, _ in cluster.fabric.network], [(3, 0), (3, 1), (3, 2)])
            exchange(cluster, 1)
            copy(cluster)
            cluster.tick(30)
        self.assertEqual(phases, ["new", "preparing", "committing", "committing"])
        self.assertEqual(cluster.client(0).phase, "ended")
        self.check(cluster, False, cluster.push, 0)

    def test_push_to_several_groups(self):
        cluster = Cluster([[("put", "p", 1), ("put", "a", 1)]], [], cuts=["m"], size=2)
        cluster.push(0)
        packets = [cluster.fabric.take(0) for _ in range(4)]
        self.assertEqual([(sender, to, letter[0], letter[5]) for sender, to, letter in packets], [
            (4, 0, "prepare", (("a", 1),)), (4, 1, "prepare", (("a", 1),)),
            (4, 2, "prepare", (("p", 1),)), (4, 3, "prepare", (("p", 1),))])

    def test_look(self):
        cluster = self.ready()
        for index in (-1, 1, 2, FAR):
            self.check(cluster, False, cluster.look, index)
        cluster.drift(5, 5)
        time = cluster.now + 10
        for _ in range(2):
            self.check(cluster, True, cluster.look, 0)
            self.assertEqual(cluster.fabric.take(0), (5, 0, ("look", 0, "a", time)))
            self.assertEqual([(sender, to) for sender, to, _ in cluster.fabric.network], [(5, 1), (5, 2)])
            cluster.lose(0)
            cluster.lose(0)
        cluster.lease(0, 40)
        exchange(cluster)
        cluster.look(0)
        exchange(cluster)
        self.assertEqual((cluster.reader(0).phase, cluster.reader(0).got()), ("waiting", [("a", None)]))
        cluster.tick(time - cluster.now)
        # The clock of the reader decides, at the edge too.
        self.assertEqual(cluster.fabric.span(5).low, time)
        self.check(cluster, False, cluster.look, 0)
        cluster.tick(1)
        self.check(cluster, True, cluster.look, 0)
        self.assertEqual((cluster.reader(0).phase, len(cluster.fabric.network)), ("ended", 0))
        self.check(cluster, False, cluster.look, 0)

    def test_what_is_impossible_changes_nothing(self):
        many = 0
        for seed in (5010, 5011):
            source = dice(seed)
            cluster = some_cluster(source, clients=3, readers=2)
            before = cluster_view(cluster)
            for _ in range(400):
                word, done = act(source, cluster)
                after = cluster_view(cluster)
                if done:
                    self.assertEqual(after["steps"], before["steps"] + 1)
                else:
                    self.assertEqual(after, before, word)
                    many += 1
                before = after
        self.assertTrue(many > 50)


class StepsTest(unittest.TestCase):

    def test_where_clients_begin_and_end(self):
        cluster = Cluster([PUT, [("put", "b", 1), ("need", "b", 2)], [("read", "a")]], [], size=1, bound=0)
        self.assertEqual(cluster.span_of_client(0), (None, None))
        cluster.push(7)
        cluster.push(1)
        self.assertEqual((cluster.steps, cluster.span_of_client(1)), (1, (1, 1)))
        begin(cluster)
        first = cluster.steps + 1
        cluster.push(0)
        self.assertEqual((cluster.steps, cluster.span_of_client(0)), (first, (first, None)))
        for _ in range(3):
            exchange(cluster)
            cluster.tick(10)
            cluster.push(0)
        cluster.flush(0)
        cluster.deliver(0)
        self.assertEqual(cluster.span_of_client(0), (first, None))
        cluster.flush(0)
        while cluster.client(0).phase != "ended":
            last = cluster.steps + 1
            cluster.deliver(0)
        self.assertEqual((cluster.steps, cluster.span_of_client(0)), (last, (first, last)))
        exchange(cluster)
        self.assertEqual(cluster.span_of_client(0), (first, last))
        self.assertEqual((cluster.span_of_client(1), cluster.span_of_client(2)), ((1, 1), (None, None)))

    def test_where_readers_begin_and_end(self):
        cluster = Cluster([], [["a"], ["b"]], size=1, bound=2)
        begin(cluster)
        cluster.lease(0, 30)
        exchange(cluster)
        first = cluster.steps + 1
        cluster.look(1)
        exchange(cluster)
        self.assertEqual((cluster.reader(1).phase, cluster.span_of_reader(1)), ("waiting", (first, None)))
        cluster.tick(50)
        last = cluster.steps + 1
        cluster.look(1)
        self.assertEqual((cluster.span_of_reader(1), cluster.span_of_reader(0)), ((first, last), (None, None)))
        cluster.look(1)
        self.assertEqual((cluster.steps, cluster.span_of_reader(1)), (last, (first, last)))


if __name__ == "__main__":
    unittest.main()
