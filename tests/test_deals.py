"""Points 42 to 44 together: transactions over several groups, with letters that go through a fabric."""

import unittest

from meridian.deals.service import Service
from meridian.net.letters import decode_letter, is_group_letter
from meridian.quorum.fabric import Fabric
from tests.runs import elect

GUEST = 6


class World:
    """Two groups of three with a service for each replica, and one guest."""

    def __init__(self):
        self.fabric = Fabric(2, 3, 5, guests=1)
        self.services = [Service(self.fabric.replica(node)) for node in range(6)]
        self.inbox = []
        self.fabric.tick(11)
        for node in (0, 3):
            elect(self.fabric, node)

    def exchange(self):
        """Flush all and deliver all, until the leaders have told their followers what is sure."""
        for _ in range(8):
            for node in range(6):
                for to in self.fabric.members(node // 3):
                    self.fabric.send(node, to)
                self.fabric.flush(node)
            while len(self.fabric.network):
                self.deliver()

    def deliver(self):
        letter = decode_letter(self.fabric.network.packet(0)[2])
        if is_group_letter(letter):
            self.fabric.deliver(0)
            return
        sender, to, letter = self.fabric.take(0)
        if to == GUEST:
            self.inbox.append(letter)
        elif self.fabric.is_up(to):
            self.services[to].handle(sender, letter, self.fabric.span(to))

    def say(self, group, letter):
        """Send a letter to all replicas of a group, and return what comes back."""
        for to in self.fabric.members(group):
            self.fabric.send_letter(GUEST, to, letter)
        self.exchange()
        found, self.inbox = self.inbox, []
        return found


class DealsTest(unittest.TestCase):

    def prepared(self, world):
        """Let transaction 1 read a in group 0 and z in group 1, and prepare writes of both."""
        self.assertEqual(world.say(0, ("read", 1, "a", 0)), [("value", 1, "a", None, 1)])
        self.assertEqual(world.say(1, ("read", 1, "z", 0)), [("value", 1, "z", None, 1)])
        times = []
        for group, key in [(0, "a"), (1, "z")]:
            letter = ("prepare", 1, 1, 0, (key,), ((key, 7),))
            self.assertEqual(world.say(group, letter), [])
            answers = world.say(group, letter)
            self.assertEqual([answer[:3] for answer in answers], [("prepared", 1, group)])
            times.append((group, answers[0][3]))
        return tuple(times)

    def test_a_transaction_commits_in_both_groups(self):
        world = World()
        times = self.prepared(world)
        self.assertEqual(world.say(0, ("read", 2, "a", 0)), [])
        self.assertEqual(world.say(0, ("commit", 1, times)), [])
        self.assertEqual(world.say(0, ("commit", 1, times)), [])
        outcome = world.services[0].sure_state().outcome(1)
        self.assertTrue(outcome >= max(time for _, time in times))
        world.fabric.tick(outcome + 6)
        self.assertEqual(world.say(0, ("commit", 1, times)), [("outcome", 1, outcome)])
        self.assertIs(world.services[3].ask(1), True)
        world.exchange()
        for node, key in [(0, "a"), (1, "a"), (3, "z"), (5, "z")]:
            state = world.services[node].sure_state()
            self.assertEqual((state.outcome(1), state.all_held()), (outcome, []))
            self.assertEqual(state.cells.versions(key), [(outcome, 7)])
        self.assertEqual(world.say(1, ("read", 2, "z", 0)), [("value", 2, "z", 7, 1)])

    def test_a_transaction_is_aborted_in_both_groups(self):
        world = World()
        times = self.prepared(world)
        self.assertIs(world.services[3].ask(1), True)
        world.exchange()
        self.assertIs(world.services[3].ask(1), True)
        world.exchange()
        for node in range(6):
            state = world.services[node].sure_state()
            self.assertEqual((state.outcome(1), state.all_held(), len(state.cells)), (0, [], 0))
        self.assertEqual(world.say(0, ("commit", 1, times)), [("outcome", 1, 0)])
        self.assertEqual(world.say(1, ("prepare", 1, 1, 0, ("z",), (("z", 7),))), [("refuse", 1)])

    def test_a_new_leader_goes_on_with_what_is_held(self):
        world = World()
        times = self.prepared(world)
        self.assertIs(world.fabric.crash(0), True)
        world.fabric.tick(20)
        elect(world.fabric, 1)
        self.assertEqual([service.is_ready for service in world.services[:3]], [False, True, False])
        self.assertEqual(world.say(0, ("read", 2, "a", 0)), [])
        self.assertEqual(world.say(0, ("read", 2, "b", 1)), [("refuse", 2)])
        world.say(0, ("commit", 1, times))
        outcome = world.services[1].sure_state().outcome(1)
        self.assertTrue(outcome >= max(time for _, time in times))
        world.fabric.tick(outcome)
        self.assertEqual(world.say(0, ("commit", 1, times)), [("outcome", 1, outcome)])

    def test_a_leader_that_was_cut_off_has_no_effect(self):
        world = World()
        world.fabric.crash(2)
        world.fabric.crash(1)
        self.assertEqual(world.say(0, ("prepare", 1, 0, 0, (), (("a", 7),))), [])
        self.assertEqual(world.services[0].full_state().all_held(), [1])
        self.assertEqual(world.services[0].sure_state().all_held(), [])
        self.assertEqual(world.say(0, ("prepare", 1, 0, 0, (), (("a", 7),))), [])


if __name__ == "__main__":
    unittest.main()
