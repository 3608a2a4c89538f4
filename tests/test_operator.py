"""Point 61 and a part of point 62: each method of an operator by itself."""

import unittest

from meridian.errors import BadArgument
from meridian.world.cluster import Cluster
from meridian.world.operator import Operator
from tests.clusters import cluster_view
from tests.helpers import error_of

PUT = [("put", "a", 1)]
BOTH = [("put", "a", 1), ("put", "p", 2)]
READ = [("read", "a"), ("read", "p")]
FAR = 10 ** 40


class Logged:
    """A cluster whose performed actions are written down; flushes and deliveries only if they are wanted."""

    ACTIONS = ("tick", "drift", "stand", "flush", "lose", "double", "damage", "crash", "restart", "send", "lease", "deliver",
               "close", "ask", "push", "look")

    def __init__(self, *args, **named):
        self.cluster = Cluster(*args, **named)
        self.log = []

    def __getattr__(self, word):
        found = getattr(self.cluster, word)
        if word not in self.ACTIONS:
            return found

        def act(*args):
            done = found(*args)
            if done:
                self.log.append((word,) + args)
            return done
        return act

    def taken(self, *left_out):
        """Return what was written down, and begin anew."""
        log = [action for action in self.log if action[0] not in left_out]
        self.log = []
        return log


def moves(cluster):
    """Return what was written down without flushes and deliveries."""
    return cluster.taken("flush", "deliver")


def exchanged(cluster, nodes):
    """Return how often all these nodes were flushed in order, if nothing else was."""
    flushes = [action[1] for action in cluster.taken() if action[0] == "flush"]
    many = len(flushes) // max(1, len(nodes))
    return many if flushes == nodes * many else None


class OperatorTest(unittest.TestCase):

    def new(self, *args, **named):
        cluster = Logged(*args, **named)
        return cluster, Operator(cluster)

    def ready(self, *args, **named):
        """Return a cluster whose groups have leaders and level logs, and its operator."""
        cluster, operator = self.new(*args, **named)
        operator.pass_time()
        operator.elect()
        operator.level()
        cluster.taken()
        return cluster, operator


class WakeTest(OperatorTest):

    def test_each_replica_that_is_down(self):
        cluster, operator = self.new([], [], cuts=["m"])
        self.assertIsNone(operator.wake())
        self.assertEqual(cluster.taken(), [])
        for node in (4, 1, 5):
            cluster.crash(node)
        cluster.taken()
        operator.wake()
        self.assertEqual(cluster.taken(), [("restart", 1), ("restart", 4), ("restart", 5)])
        self.assertTrue(all(cluster.fabric.is_up(node) for node in range(6)))


class ExchangeTest(OperatorTest):

    def test_three_times(self):
        cluster, operator = self.new([], [])
        self.assertIsNone(operator.exchange())
        self.assertEqual(cluster.taken(), [("flush", 0), ("flush", 1), ("flush", 2)] * 3)

    def test_replicas_that_are_down_are_not_flushed(self):
        cluster, operator = self.new([], [])
        cluster.crash(1)
        cluster.taken()
        operator.exchange()
        self.assertEqual(cluster.taken(), [("flush", 0), ("flush", 2)] * 3)

    def test_packets_in_transit(self):
        cluster, operator = self.new([PUT], [])
        cluster.push(0)
        cluster.crash(2)
        cluster.taken()
        operator.exchange()
        # The letters of the client come first, also the one to the replica that is down.
        self.assertEqual(cluster.taken(), [("flush", 0), ("flush", 1)] + [("deliver", 0)] * 3 + [("flush", 0), ("flush", 1)] * 2)
        cluster.tick(50)
        cluster.stand(0)
        cluster.taken()
        operator.exchange()
        self.assertEqual(cluster.taken(), [("flush", 0), ("flush", 1), ("deliver", 0), ("deliver", 0), ("flush", 0), ("flush", 1),
                                          ("deliver", 0), ("flush", 0), ("flush", 1)])
        self.assertEqual(cluster.fabric.replica(0).role, "leader")
        self.assertEqual((len(cluster.fabric.network), cluster.fabric.replica(1).outbox()), (0, []))


class PassTimeTest(OperatorTest):

    def test_a_new_cluster(self):
        for bound in (0, 1, 5, 20):
            cluster, operator = self.new([], [], bound=bound)
            self.assertIsNone(operator.pass_time())
            self.assertEqual(cluster.taken(), [("tick", 4 * bound + 2)])

    def test_at_least_one(self):
        cluster, operator = self.new([], [])
        for now, by in [(20, 2), (22, 1), (23, 1), (500, 1)]:
            cluster.tick(now - cluster.now)
            cluster.taken()
            operator.pass_time()
            self.assertEqual(cluster.taken(), [("tick", by)])

    def check_greatest(self, cluster, operator, greatest):
        """Pass time, which must lead to this time and what is behind it."""
        now = cluster.now
        operator.pass_time()
        self.assertEqual(moves(cluster)[-1:], [("tick", max(1, greatest + 22 - now))])
        for address in range(cluster.fabric.addresses):
            self.assertTrue(cluster.fabric.span(address).is_past(greatest))

    def test_promises(self):
        cluster, operator = self.ready([], [], cuts=["m"])
        cluster.lease(3, 3000)
        cluster.taken()
        self.check_greatest(cluster, operator, cluster.fabric.replica(3).journal.promise)
        cluster.lease(3, 3000)
        operator.exchange()
        cluster.crash(3)
        for node in (4, 5):
            cluster.fabric.replica(node).journal.sync()
        cluster.crash(4)
        promises = [cluster.fabric.replica(node).journal.promise for node in range(6)]
        self.assertEqual(max(promises), promises[4])
        cluster.taken()
        self.check_greatest(cluster, operator, max(promises))

    def test_logs(self):
        cluster, operator = self.ready([], [], cuts=["m"])
        cluster.fabric.replica(3).propose(("decide", 1, 7000))
        cluster.fabric.replica(3).propose(("floor", 3))
        self.check_greatest(cluster, operator, 7000)
        cluster.fabric.replica(3).propose(("prepare", 2, 9000, 0, (), ()))
        cluster.fabric.replica(3).flush(cluster.fabric.span(3))
        cluster.crash(3)
        self.check_greatest(cluster, operator, 9000)

    def test_readers(self):
        cluster, operator = self.new([], [["a"], ["a"], ["a"]])
        cluster.tick(100)
        cluster.drift(4, 5)
        cluster.look(1)
        cluster.taken()
        self.assertEqual(cluster.reader(1).time, 110)
        self.check_greatest(cluster, operator, 110)


class ElectTest(OperatorTest):

    def test_a_new_cluster(self):
        cluster, operator = self.new([], [], cuts=["m"])
        operator.pass_time()
        cluster.taken()
        self.assertIsNone(operator.elect())
        self.assertEqual(moves(cluster), [("stand", 0), ("stand", 3)])
        self.assertEqual([operator.chief(group) for group in (0, 1)], [0, 3])
        operator.elect()
        # Both groups have leaders now; each of them sends to the others of its group.
        log = cluster.taken()
        self.assertEqual(log[:4], [("send", 0, 1), ("send", 0, 2), ("send", 3, 4), ("send", 3, 5)])
        self.assertEqual([action for action in log if action[0] not in ("flush", "deliver")], log[:4])

    def test_how_many_exchanges(self):
        for ready, many in [(0, 2), (1, 1)]:
            cluster, operator = self.new([], [])
            operator.pass_time()
            if ready:
                operator.elect()
            cluster.taken()
            operator.elect()
            self.assertEqual(exchanged(cluster, [0, 1, 2]), 3 * many)

    def test_nobody_can_stand_before_the_time(self):
        cluster, operator = self.new([], [])
        operator.elect()
        self.assertEqual((moves(cluster), operator.chief(0)), ([], None))
        operator.elect()
        self.assertEqual(exchanged(cluster, [0, 1, 2]), 9)

    def test_the_replica_with_the_greatest_log(self):
        for terms, chosen in [([[1], [1, 1], [1]], 1), ([[1], [1, 1], [1, 1]], 1), ([[2], [1, 1], [1, 1, 1]], 0), ([[], [], [1]], 2),
                              ([[], [], []], 0), ([[1, 2], [1, 1, 2], [2]], 1)]:
            cluster, operator = self.new([], [])
            for node, log in enumerate(terms):
                journal = cluster.fabric.replica(node).journal
                journal.set_ballot(3, -1)
                for index, term in enumerate(log):
                    journal.put_entry(index, term, ("floor", 5 + index))
            operator.pass_time()
            cluster.taken()
            operator.elect()
            self.assertEqual((moves(cluster), operator.chief(0)), ([("stand", chosen)], chosen))

    def test_the_replica_with_the_greatest_log_is_down(self):
        cluster, operator = self.new([], [], cuts=["m"])
        cluster.fabric.replica(1).journal.set_ballot(1, -1)
        cluster.fabric.replica(1).journal.put_entry(0, 1, ("floor", 5))
        cluster.fabric.replica(1).journal.sync()
        cluster.crash(1)
        operator.pass_time()
        cluster.taken()
        operator.elect()
        self.assertEqual(cluster.taken("deliver")[-1:], [("flush", 5)])
        self.assertEqual([operator.chief(group) for group in (0, 1)], [None, 3])

    def test_two_tries(self):
        # The first candidate learns from the others that its term is too small.
        cluster, operator = self.new([], [])
        for node in (1, 2):
            cluster.fabric.replica(node).journal.set_ballot(7, -1)
        operator.pass_time()
        cluster.taken()
        operator.elect()
        self.assertEqual((moves(cluster), operator.chief(0), cluster.fabric.replica(0).term), ([("stand", 0)] * 2, 0, 8))

    def test_at_most_two_tries(self):
        cluster, operator = self.new([], [])
        for node in (1, 2):
            cluster.crash(node)
        operator.pass_time()
        cluster.taken()
        operator.elect()
        self.assertEqual((moves(cluster), operator.chief(0)), ([("stand", 0)] * 2, None))
        self.assertEqual(cluster.fabric.replica(0).term, 2)
        operator.elect()
        self.assertEqual(exchanged(cluster, [0]), 9)

    def test_a_leader_of_an_earlier_term_steps_down(self):
        cluster, operator = self.ready([], [])
        cluster.tick(100)
        cluster.stand(2)
        cluster.flush(2)
        cluster.deliver(1)
        cluster.lose(0)
        cluster.flush(1)
        cluster.deliver(0)
        self.assertEqual([cluster.fabric.replica(node).role for node in range(3)], ["leader", "follower", "leader"])
        self.assertEqual(operator.chief(0), 2)
        cluster.taken()
        operator.elect()
        self.assertEqual(moves(cluster), [("send", 0, 1), ("send", 0, 2), ("send", 2, 0), ("send", 2, 1)])
        self.assertEqual([cluster.fabric.replica(node).role for node in range(3)], ["follower", "follower", "leader"])


class ChiefTest(OperatorTest):

    def test_chiefs(self):
        cluster, operator = self.ready([], [], cuts=["m"])
        self.assertEqual([operator.chief(group) for group in (0, 1)], [0, 3])
        for group in (-1, 2, FAR):
            self.assertEqual(error_of(operator.chief, group), BadArgument)
        cluster.crash(3)
        self.assertEqual([operator.chief(group) for group in (0, 1)], [0, None])
        self.assertEqual(error_of(operator.chief, 2), BadArgument)

    def test_of_several_leaders_the_one_with_the_greatest_term(self):
        cluster, operator = self.ready([], [])
        cluster.tick(100)
        cluster.stand(1)
        cluster.flush(1)
        cluster.lose(0)
        cluster.deliver(0)
        cluster.flush(2)
        cluster.deliver(0)
        self.assertEqual([cluster.fabric.replica(node).role for node in (0, 1)], ["leader", "leader"])
        self.assertEqual(operator.chief(0), 1)


class SendTest(OperatorTest):

    def test_spread(self):
        cluster, operator = self.ready([], [], cuts=["m"])
        self.assertIsNone(operator.spread())
        sends = [("send", 0, 1), ("send", 0, 2), ("send", 3, 4), ("send", 3, 5)]
        self.assertEqual(moves(cluster), sends * 2)
        operator.spread()
        self.assertEqual(exchanged(cluster, list(range(6))), 6)
        cluster.crash(0)
        cluster.taken()
        operator.spread()
        self.assertEqual(moves(cluster), sends[2:] * 2)
        cluster.crash(3)
        cluster.taken()
        operator.spread()
        self.assertEqual(moves(cluster), [])

    def test_the_chief_need_not_be_the_first_replica(self):
        cluster, operator = self.new([], [])
        cluster.tick(50)
        cluster.stand(1)
        operator.exchange()
        cluster.taken()
        operator.spread()
        self.assertEqual(moves(cluster), [("send", 1, 0), ("send", 1, 2)] * 2)

    def test_level_of_a_new_group(self):
        cluster, operator = self.new([], [])
        operator.pass_time()
        operator.elect()
        cluster.taken()
        self.assertIsNone(operator.level())
        # All have the opening record after the first time, and all know after the second one that it is sure.
        self.assertEqual(moves(cluster), [("send", 0, 1), ("send", 0, 2)] * 2)
        operator.level()
        self.assertEqual(cluster.taken(), [])

    def test_level_with_another_log(self):
        cluster, operator = self.ready([], [], cuts=["m"])
        before = cluster_view(cluster.cluster)
        operator.level()
        self.assertEqual(cluster_view(cluster.cluster), before)
        cluster.close(3)
        cluster.taken()
        operator.level()
        self.assertEqual(moves(cluster), [("send", 0, 1), ("send", 0, 2), ("send", 3, 4), ("send", 3, 5)] * 2)
        logs = [cluster.fabric.replica(node).sure_entries() for node in (3, 4, 5)]
        self.assertEqual([len(log) for log in logs], [2, 2, 2])
        cluster.crash(1)
        cluster.restart(1)
        cluster.taken()
        operator.level()
        self.assertEqual(len(moves(cluster)), 4)

    def test_level_goes_back_entry_by_entry(self):
        cluster, operator = self.new([], [])
        for node, term, many in [(0, 2, 1), (1, 1, 5), (2, 2, 1)]:
            journal = cluster.fabric.replica(node).journal
            journal.set_ballot(2, -1)
            for index in range(many):
                journal.put_entry(index, term, ("floor", 5 + index))
            journal.sync()
        operator.pass_time()
        operator.elect()
        self.assertEqual(operator.chief(0), 0)
        operator.level()
        entries = cluster.fabric.replica(0).journal.entries()
        for node in range(3):
            replica = cluster.fabric.replica(node)
            self.assertEqual((replica.journal.entries(), replica.sure), (entries, 2))

    def test_how_often_at_most(self):
        cluster, operator = self.ready([], [], cuts=["m"])
        for _ in range(4):
            cluster.close(3)
        cluster.crash(1)
        cluster.taken()
        operator.level()
        self.assertEqual(moves(cluster).count(("send", 0, 2)), 5 + 3)
        cluster.crash(0)
        cluster.crash(2)
        cluster.taken()
        operator.level()
        # A group without a chief is left out of the test.
        self.assertEqual(cluster.taken(), [])


class ReleaseTest(OperatorTest):

    def held(self):
        """Return a cluster in which transaction 1 is held in both groups and transaction 2 has locks in both."""
        cluster, operator = self.ready([BOTH, [("read", "b"), ("read", "q"), ("read", "z")], PUT], [], cuts=["m"])
        for _ in range(3):
            cluster.push(1)
            operator.exchange()
        cluster.push(0)
        operator.exchange()
        operator.spread()
        self.assertEqual([cluster.state(group).all_held() for group in (0, 1)], [[1], [1]])
        self.assertEqual(cluster.service(0).locks(), [("b", 2, False)])
        self.assertEqual(cluster.service(3).locks(), [("q", 2, False), ("z", 2, False)])
        cluster.taken()
        return cluster, operator

    def test_all_transactions(self):
        cluster, operator = self.held()
        self.assertIsNone(operator.release())
        log = moves(cluster)
        sends = [("send", 0, 1), ("send", 0, 2), ("send", 3, 4), ("send", 3, 5)]
        self.assertEqual(log, [("ask", 0, 1), ("ask", 3, 1), ("ask", 0, 2), ("ask", 3, 2)] + sends * 2 + [("ask", 3, 1)] + sends * 2)
        self.assertEqual([cluster.state(group).outcome(1) for group in (0, 1)], [0, 0])
        self.assertEqual([cluster.service(node).locks() for node in (0, 3)], [[], []])
        self.assertEqual([cluster.service(node).shut() for node in (0, 3)], [[2], [2]])
        operator.release()
        self.assertEqual(exchanged(cluster, list(range(6))), 2 * (3 + 6))

    def test_all_but_one(self):
        cluster, operator = self.held()
        operator.release(spare=1)
        self.assertEqual([action for action in moves(cluster) if action[0] == "ask"], [("ask", 0, 1), ("ask", 3, 1), ("ask", 3, 1)])
        self.assertEqual(cluster.service(0).locks(), [("b", 2, False)])
        self.assertEqual([cluster.state(group).outcome(1) for group in (0, 1)], [0, 0])
        cluster, operator = self.held()
        operator.release(spare=0)
        self.assertEqual([action for action in moves(cluster) if action[0] == "ask"], [("ask", 0, 2), ("ask", 3, 2)])
        self.assertEqual([cluster.state(group).all_held() for group in (0, 1)], [[1], [1]])

    def test_groups_without_a_chief(self):
        cluster, operator = self.held()
        cluster.crash(0)
        cluster.taken()
        operator.release()
        log = moves(cluster)
        self.assertEqual([action for action in log if action[0] == "ask"], [("ask", 3, 1), ("ask", 3, 2), ("ask", 3, 1)])
        self.assertEqual([action[1] for action in log if action[0] == "send"], [3] * 8)
        self.assertEqual(cluster.state(1).all_held(), [1])


class HandleTest(OperatorTest):

    def test_a_round_of_a_client(self):
        cluster, operator = self.ready([PUT], [], cuts=["m"])
        sends = [("send", 0, 1), ("send", 0, 2), ("send", 3, 4), ("send", 3, 5)]
        rounds = operator.finish(0)
        log = moves(cluster)
        # Nothing is asked, because there is no other transaction, but the letters are sent all the same.
        self.assertEqual(log[:16], sends * 4)
        steps = [action[0] for action in log[16:]]
        self.assertEqual(steps, (["lease", "lease", "push"] + ["send"] * 8 + ["tick"]) * rounds)
        self.assertEqual(log[16:19], [("lease", 0, 24), ("lease", 3, 24), ("push", 0)])
        self.assertEqual(log[19:27], sends * 2)
        self.assertTrue(rounds <= 1 + 6 and cluster.client(0).result > 0)
        self.assertEqual(operator.finish(0), 0)
        self.assertEqual(cluster.taken(), [])

    def test_a_round_of_a_reader(self):
        cluster, operator = self.ready([], [["a", "p"]], cuts=["m"], bound=2)
        sends = [("send", 0, 1), ("send", 0, 2), ("send", 3, 4), ("send", 3, 5)]
        rounds = operator.see(0)
        log = moves(cluster)
        self.assertEqual(log[:11], [("lease", 0, 12), ("lease", 3, 12), ("look", 0)] + sends * 2)
        self.assertEqual([action[0] for action in log], (["lease", "lease", "look"] + ["send"] * 8 + ["tick"]) * rounds)
        self.assertEqual((rounds <= 2 + 3, cluster.reader(0).phase), (True, "ended"))
        self.assertEqual((operator.see(0), cluster.taken()), (0, []))

    def test_how_many_exchanges_a_round_has(self):
        cluster, operator = self.ready([], [["a", "p"]], cuts=["m"])
        rounds = operator.see(0)
        # One by itself, and two to spread.
        self.assertEqual(exchanged(cluster, list(range(6))), rounds * 3 * 3)

    def test_a_client_is_handled_after_all_others_are_released(self):
        cluster, operator = self.ready([PUT, READ], [])
        cluster.push(1)
        operator.exchange()
        cluster.push(1)
        operator.exchange()
        self.assertEqual(cluster.service(0).locks(), [("a", 2, False), ("p", 2, False)])
        cluster.taken()
        self.assertTrue(operator.finish(0) > 0)
        self.assertEqual(moves(cluster)[0], ("ask", 0, 2))
        self.assertTrue(cluster.client(0).result > 0)
        operator.finish(1)
        self.assertEqual(cluster.client(1).result, 0)

    def test_a_client_that_ends_while_the_others_are_released(self):
        cluster, operator = self.ready([PUT], [])
        cluster.push(0)
        cluster.fabric.send_letter(0, 3, ("refuse", 1))
        self.assertEqual((operator.finish(0), cluster.client(0).result), (0, 0))

    def test_indexes_out_of_range(self):
        _, operator = self.ready([PUT], [["a"]])
        for index in (-1, 1, FAR):
            self.assertEqual(error_of(operator.finish, index), BadArgument)
            self.assertEqual(error_of(operator.see, index), BadArgument)

    def test_how_many_rounds_at_most(self):
        for down in (range(3), (0, 1), (1, 2)):
            cluster, operator = self.ready([PUT, READ], [["a"], ["a", "b", "c"]])
            for node in down:
                cluster.crash(node)
            cluster.taken()
            self.assertEqual([operator.finish(0), operator.finish(1)], [1 + 6, 2 + 6])
            self.assertEqual([operator.see(0), operator.see(1)], [1 + 3, 3 + 3])
            self.assertEqual([action for action in moves(cluster) if action[0] in ("push", "look")],
                             [("push", 0)] * 7 + [("push", 1)] * 8 + [("look", 0)] * 4 + [("look", 1)] * 6)

    def test_a_program_that_gives_up(self):
        cluster, operator = self.ready([[("put", "a", 1), ("need", "a", 2)], [("need", "a", 2)]], [])
        self.assertEqual([operator.finish(0), operator.finish(1)], [1, 2])
        self.assertEqual([cluster.client(index).result for index in (0, 1)], [0, 0])


class SettleTest(OperatorTest):

    def test_the_example(self):
        for bound in (0, 5, 9):
            cluster, operator = self.new([PUT, [("add", "a", 1)]], [["a"]], bound=bound)
            self.assertIsNone(operator.settle())
            log = moves(cluster)
            self.assertEqual(log[:2], [("tick", 4 * bound + 2), ("stand", 0)])
            pushes = [action for action in log if action[0] in ("push", "look")]
            self.assertEqual(sorted(set(pushes), key=pushes.index), [("push", 0), ("push", 1), ("look", 0)])
            self.assertEqual(cluster.reader(0).got(), [("a", 2)])

    def test_the_order(self):
        cluster, operator = self.new([PUT, READ, PUT], [["a"], ["b"]], cuts=["m"])
        cluster.crash(4)
        cluster.push(1)
        cluster.taken()
        operator.settle()
        log = cluster.taken("deliver", "send")
        # Wake, exchange, pass time, elect.
        self.assertEqual(log[0], ("restart", 4))
        self.assertEqual(log[1:19], [("flush", node) for node in range(6)] * 3)
        self.assertEqual((log[19], log[38]), (("tick", 22), ("stand", 0)))
        words = [action for action in log if action[0] in ("push", "look", "ask", "stand", "restart")]
        order = [("restart", 4), ("stand", 0), ("stand", 3), ("push", 0), ("push", 1), ("push", 2), ("look", 0), ("look", 1)]
        self.assertEqual(sorted(set(order), key=words.index), order)

    def test_what_has_ended_is_left_alone(self):
        cluster, operator = self.new([PUT, PUT], [["a"]])
        operator.settle()
        cluster.taken()
        spans = [cluster.span_of_client(0), cluster.span_of_client(1), cluster.span_of_reader(0)]
        operator.settle()
        log = moves(cluster)
        self.assertEqual([action[0] for action in log if action[0] not in ("send", "tick")], [])
        self.assertEqual([cluster.span_of_client(0), cluster.span_of_client(1), cluster.span_of_reader(0)], spans)

    def test_no_clients_and_no_readers(self):
        cluster, operator = self.new([], [], size=1, cuts=["b", "c"])
        operator.settle()
        self.assertEqual([operator.chief(group) for group in range(3)], [0, 1, 2])
        self.assertTrue(all(cluster.service(node).is_ready for node in range(3)))
        cluster, operator = self.new([], [], size=2)
        operator.settle()
        # Two times to level, and then two times to spread in each of the two times of the release.
        self.assertEqual(moves(cluster), [("tick", 22), ("stand", 0)] + [("send", 0, 1)] * (2 + 4))


if __name__ == "__main__":
    unittest.main()
