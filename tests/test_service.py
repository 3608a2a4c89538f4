"""Points 42 and 44: the service of a leader, its tenures, and what it does of itself."""

import unittest

from meridian.clocks.spans import Span
from meridian.deals.service import Service
from meridian.ledger.states import State, state_of
from meridian.quorum.replicas import CANDIDATE, FOLLOWER, LEADER
from tests.groups import NOW, leader_with, replica_with
from tests.services import BEGIN, SENDER, effect, make_sure, prepare, service_with, take_locks, unready_services

FAR = 10 ** 40


def state_view(state):
    held = [(txn, state.held(txn)) for txn in state.all_held()]
    return state.floor, held, state.all_outcomes(), {key: state.cells.versions(key) for key in state.cells}


def lead_again(replica, term):
    """Let a leader step down and lead again in a later term."""
    replica.receive(replica.base + 1, ("behind", term - 1, 0), NOW)
    replica.stand(NOW)
    replica.flush(NOW)
    replica.receive(replica.base + 1, ("give_vote", term), NOW)
    make_sure(replica)
    replica.flush(NOW)


class StatesTest(unittest.TestCase):

    def test_the_sure_state_and_the_full_state(self):
        sure = [prepare(1, 30, "a", "b"), ("decide", 1, 40), ("decide", 2, 0)]
        full = [prepare(3, 50, "", "c"), ("floor", 60), ("decide", 3, 70)]
        for many in range(len(full) + 1):
            replica, service = service_with(sure, full[:many])
            opening = ("floor", 20)
            self.assertIsInstance(service.sure_state(), State)
            self.assertEqual(state_view(service.sure_state()), state_view(state_of([opening] + sure)))
            self.assertEqual(state_view(service.full_state()), state_view(state_of([opening] + sure + full[:many])))
            before = service.full_state(), state_view(service.full_state())
            make_sure(replica)
            replica.propose(("floor", 500))
            self.assertEqual(state_view(service.sure_state()), before[1])
            self.assertEqual(service.full_state().floor, 500)
            self.assertEqual(state_view(before[0]), before[1])

    def test_states_after_the_log_was_cut(self):
        replica, service = service_with([prepare(1, 30, "a", "b")], [("decide", 1, 40)])
        self.assertEqual(service.full_state().outcome(1), 40)
        replica.receive(4, ("append", 3, 2, 2, ((3, ("decide", 1, 0)),), 3), NOW)
        self.assertEqual((service.full_state().outcome(1), service.sure_state().outcome(1)), (0, 0))
        replica.crash()
        self.assertEqual((service.full_state().held(1)[0], service.sure_state().held(1)), (30, None))

    def test_states_of_a_follower(self):
        replica = replica_with(2, [(1, ("floor", 5)), (2, prepare(1, 6))], base=3)
        service = Service(replica)
        self.assertEqual((service.sure_state().floor, service.full_state().floor), (0, 6))
        replica.receive(4, ("append", 2, 2, 2, (), 1), NOW)
        self.assertEqual((service.sure_state().floor, service.full_state().floor), (5, 6))


class ReadyTest(unittest.TestCase):

    def test_who_is_ready(self):
        roles = []
        for replica, service in unready_services():
            self.assertIs(service.is_ready, False)
            roles.append((replica.role, replica.sure > 0))
        self.assertEqual(roles, [(FOLLOWER, True), (CANDIDATE, False), (LEADER, False), (LEADER, True)])
        self.assertIs(service_with()[1].is_ready, True)
        self.assertIs(service_with(size=1)[1].is_ready, True)

    def test_a_leader_becomes_ready_with_its_opening_record(self):
        replica = leader_with(3, [(1, ("floor", 5)), (2, ("floor", 6))], base=3)
        service = Service(replica)
        replica.flush(NOW)
        for length, ready in [(1, False), (2, False), (3, True)]:
            replica.receive(4, ("appended", 3, length), NOW)
            self.assertIs(service.is_ready, ready)
        replica.receive(4, ("behind", 4, 0), NOW)
        self.assertIs(service.is_ready, False)

    def test_sure_entries_of_an_earlier_term_do_not_make_ready(self):
        replica, service = service_with()
        replica.receive(4, ("behind", 3, 0), NOW)
        replica.stand(NOW)
        replica.flush(NOW)
        replica.receive(4, ("give_vote", 4), NOW)
        self.assertEqual((replica.role, replica.sure), (LEADER, 1))
        self.assertIs(service.is_ready, False)
        make_sure(replica)
        self.assertIs(service.is_ready, True)


class TenureTest(unittest.TestCase):

    def busy(self):
        """Return a ready leader with a lock, a shut transaction and a promised time."""
        replica, service = service_with()
        take_locks(replica, service, (5, "a"), (7, "b"))
        service.ask(7)
        replica.ask_lease(500)
        replica.flush(NOW)
        replica.receive(4, ("give_lease", 2, 500), NOW)
        service.handle(SENDER, ("look", 1, "a", 200), NOW)
        replica.flush(NOW)
        return replica, service

    def kept(self, service):
        return service.locks(), service.shut(), service.promised()

    def test_the_beginning_of_a_tenure(self):
        self.assertEqual(self.kept(service_with()[1]), ([], [], 0))

    def test_what_is_kept(self):
        _, service = self.busy()
        self.assertEqual(self.kept(service), ([("a", 5, False)], [7], 200))
        service.locks().append(1)
        service.shut().append(1)
        self.assertEqual(self.kept(service), ([("a", 5, False)], [7], 200))

    def test_a_tenure_ends_with_the_leadership(self):
        for end in (lambda replica: replica.receive(4, ("behind", 9, 0), NOW), lambda replica: replica.crash(),
                    lambda replica: replica.receive(4, ("append", 9, 0, 0, (), 0), NOW)):
            replica, service = self.busy()
            end(replica)
            self.assertEqual((replica.role, self.kept(service)), (FOLLOWER, ([], [], 0)))

    def test_a_new_tenure_begins_anew(self):
        for ask_between in (True, False):
            replica, service = self.busy()
            replica.receive(4, ("behind", 3, 0), Span(900, 910))
            if ask_between:
                self.assertEqual(self.kept(service), ([], [], 0))
            replica.stand(Span(900, 910))
            replica.flush(Span(900, 910))
            replica.receive(5, ("give_vote", 4), Span(900, 910))
            self.assertEqual((replica.role, self.kept(service)), (LEADER, ([], [], 0)))
            make_sure(replica)
            replica.flush(NOW)
            service.handle(SENDER, ("read", 7, "b", 4), NOW)
            self.assertEqual(replica.outbox(), [(SENDER, ("value", 7, "b", None, 4))])
            self.assertEqual(self.kept(service), ([("b", 7, False)], [], 0))

    def test_a_tenure_of_the_same_term_after_a_crash(self):
        replica = replica_with(base=3)
        service = Service(replica)
        for _ in range(2):
            replica.stand(BEGIN)
            replica.receive(4, ("give_vote", 1), BEGIN)
            replica.receive(5, ("give_vote", 1), BEGIN)
            self.assertEqual((replica.role, replica.term), (LEADER, 1))
            replica.receive(4, ("appended", 1, 1), NOW)
            replica.receive(5, ("appended", 1, 1), NOW)
            self.assertEqual(self.kept(service), ([], [], 0))
            service.handle(SENDER, ("read", 7, "b", 0), NOW)
            self.assertEqual(self.kept(service), ([("b", 7, False)], [], 0))
            replica.crash()

    def test_a_service_that_is_made_for_a_leader(self):
        replica, _ = service_with()
        other = Service(replica)
        take_locks(replica, other, (5, "a"))
        self.assertEqual(self.kept(other), ([("a", 5, False)], [], 0))

    def test_two_tenures_in_turn(self):
        replica, service = service_with()
        for term in (2, 4, 6, 8):
            if term > 2:
                lead_again(replica, term)
            self.assertEqual((replica.term, service.is_ready, self.kept(service)), (term, True, ([], [], 0)))
            take_locks(replica, service, (term, "a"))
            self.assertEqual(service.locks(), [("a", term, False)])


class CloseTest(unittest.TestCase):

    def test_who_cannot_close(self):
        for replica, service in unready_services():
            self.assertEqual(effect(replica, service, service.close, NOW), (False, {}))

    def test_the_time_of_the_floor_record(self):
        for sure, full, high, time in [([], [], 110, 110), ([], [], 21, 21), ([], [], 20, 21), ([], [], 19, 21),
                                       ([("floor", 300)], [], 110, 301), ([], [("floor", 300)], 110, 301),
                                       ([prepare(1, 109)], [], 110, 110), ([prepare(1, 110)], [], 110, 111), ([], [], FAR, FAR)]:
            replica, service = service_with(sure, full)
            self.assertEqual(effect(replica, service, service.close, Span(high - 10, high)),
                             (True, {"log": [("floor", time)]}))
            self.assertEqual(service.full_state().floor, time)


class AskTest(unittest.TestCase):

    def test_who_cannot_ask(self):
        for replica, service in unready_services():
            for txn in (1, 8, 9):
                self.assertEqual(effect(replica, service, service.ask, txn), (False, {}))

    def test_a_transaction_with_a_lock(self):
        replica, service = service_with()
        take_locks(replica, service, (5, "a"), (5, "b"), (6, "a"))
        self.assertEqual(effect(replica, service, service.ask, 5), (True, {"locks": [("a", 6, False)], "shut": [5]}))
        self.assertEqual(effect(replica, service, service.ask, 5), (False, {}))
        self.assertEqual(effect(replica, service, service.ask, 6), (True, {"locks": [], "shut": [5, 6]}))

    def test_a_transaction_that_is_held_with_the_own_group_as_its_lead(self):
        for sure, full in [([prepare(5, 30, "a", "b", 1)], []), ([], [prepare(5, 30, "a", "b", 1)])]:
            replica, service = service_with(sure, full)
            self.assertEqual(effect(replica, service, service.ask, 5), (True, {"log": [("decide", 5, 0)]}))
            self.assertEqual(effect(replica, service, service.ask, 5), (False, {}))

    def test_a_transaction_that_is_held_with_another_lead(self):
        for size, lead, addresses in [(3, 0, [0, 1, 2]), (3, 4, [12, 13, 14]), (2, 3, [6, 7]), (1, 2, [2])]:
            replica, service = service_with([prepare(5, 30, "a", "b", lead)], base=size, size=size)
            self.assertEqual(effect(replica, service, service.ask, 5), (
                True, {"outbox": [(to, ("query", 5)) for to in addresses]}))

    def test_own_group_numbers(self):
        for size, base, group in [(3, 0, 0), (3, 3, 1), (3, 6, 2), (1, 4, 4), (5, 10, 2), (3, 4, 1), (3, 5, 1)]:
            replica, service = service_with([prepare(5, 30, "", "b", group)], base=base, size=size)
            self.assertEqual(effect(replica, service, service.ask, 5), (True, {"log": [("decide", 5, 0)]}))

    def test_transactions_that_cannot_be_asked_about(self):
        replica, service = service_with([prepare(1, 30), ("decide", 1, 40), prepare(2, 50), ("decide", 3, 0)],
                                        [("decide", 2, 60)])
        for txn in (1, 2, 3, 4, FAR):
            self.assertEqual(effect(replica, service, service.ask, txn), (False, {}))

    def test_a_lock_comes_before_what_is_held(self):
        replica, service = service_with()
        take_locks(replica, service, (5, "a"))
        replica.propose(prepare(5, 30, "", "b"))
        self.assertEqual(effect(replica, service, service.ask, 5), (True, {"locks": [], "shut": [5]}))
        self.assertEqual(effect(replica, service, service.ask, 5), (True, {"log": [("decide", 5, 0)]}))


if __name__ == "__main__":
    unittest.main()
