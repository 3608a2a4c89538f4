"""Points 29 and 30: what a leader can do, and its lease."""

import unittest

from meridian.errors import BadArgument
from tests.groups import A, B, C, D, NOW, candidate_with, changes, leader_with, others_of, replica_with, view
from tests.helpers import error_of

FAR = 10 ** 40


def not_leaders():
    return [replica_with(3, [(1, A)]), candidate_with(3, [(1, A)]), replica_with(), replica_with(3, vote=0)]


class ProposeTest(unittest.TestCase):

    def test_a_leader(self):
        replica = leader_with(4, [(1, A)])
        log = replica.journal.entries()
        for record in (B, C, D, B):
            notes = len(replica.journal.notes())
            self.assertIs(replica.propose(record), True)
            log.append((4, record))
            self.assertEqual(replica.journal.entries(), log)
            self.assertEqual(replica.journal.notes()[notes:], [("entry", len(log) - 1, 4, record)])
        self.assertEqual((replica.outbox(), replica.sure, replica.journal.safe_length), ([], 0, 1))

    def test_the_others(self):
        for replica in not_leaders():
            for record in (A, D):
                self.assertEqual(changes(replica, replica.propose, record), (False, {}))

    def test_records_that_cannot_be_encoded(self):
        for replica in not_leaders() + [leader_with(3)]:
            for record in [("floor", 0), ("prepare", 0, 1, 0, (), ()), ("decide", 1, -1), ("done", 0, 1),
                           ("prepare", 1, 1, 0, ("b", "a"), ()), ("prepare", 1, 1, 0, (), (("A", 1),)),
                           ("prepare", 1, 1, 0, ("",), ())]:
                before = view(replica)
                self.assertIs(error_of(replica.propose, record), BadArgument)
                self.assertEqual(view(replica), before)


class SendTest(unittest.TestCase):

    def test_what_is_sent(self):
        for base in (0, 10):
            replica = leader_with(4, [(1, A), (2, B)], base=base, size=3, me=1)
            replica.propose(C)
            replica.propose(D)
            replica.flush(NOW)
            replica.receive(base, ("appended", 4, 3), NOW)
            opening = (4, ("floor", 110))
            for length, previous, entries in [(2, 2, (opening, (4, C), (4, D))), (1, 1, ((2, B), opening, (4, C), (4, D))),
                                              (0, 0, ((1, A), (2, B), opening, (4, C), (4, D)))]:
                replica.receive(base + 2, ("behind", 4, length), NOW)
                self.assertIs(replica.send(base + 2), True)
                self.assertEqual(replica.flush(NOW), [(base + 2, ("append", 4, length, previous, entries, 3))])
            self.assertIs(replica.send(base), True)
            self.assertEqual(replica.outbox(), [(base, ("append", 4, 3, 4, ((4, C), (4, D)), 3))])

    def test_nothing_is_left_to_send(self):
        replica = leader_with(4)
        replica.flush(NOW)
        replica.receive(12, ("appended", 4, 1), NOW)
        replica.send(12)
        self.assertEqual(replica.outbox(), [(12, ("append", 4, 1, 4, (), 1))])

    def test_a_send_does_not_change_the_next_index(self):
        replica = leader_with(4)
        for _ in range(3):
            replica.send(11)
        self.assertEqual(len(set(replica.outbox())), 1)

    def test_what_is_sent_was_a_part_of_the_log_at_that_moment(self):
        replica = leader_with(4)
        replica.send(11)
        replica.propose(A)
        self.assertEqual(replica.outbox(), [(11, ("append", 4, 0, 0, ((4, ("floor", 110)),), 0))])

    def test_who_cannot_be_sent_to(self):
        for size in (1, 2, 3, 5):
            for me in range(size):
                replica = leader_with(2, base=10, size=size, me=me)
                replica.flush(NOW)
                for to in [-FAR, -1, 0, 9, 10 + me, 10 + size, 11 + size, FAR]:
                    self.assertEqual(changes(replica, replica.send, to), (False, {}))
                for to in others_of(replica):
                    self.assertIs(replica.send(to), True)

    def test_the_others(self):
        for replica in not_leaders():
            for to in (10, 11, 12, 13):
                self.assertEqual(changes(replica, replica.send, to), (False, {}))


class LeaseTest(unittest.TestCase):

    def test_ask_lease(self):
        for size in range(1, 6):
            for me in (0, size - 1):
                replica = leader_with(2, size=size, me=me)
                replica.flush(NOW)
                replica.flush(NOW)
                for until, promise in [(0, 0), (50, 50), (50, 50), (40, 50), (FAR, FAR)]:
                    self.assertIs(replica.ask_lease(until), True)
                    self.assertEqual(replica.journal.promise, promise)
                    letters = [(to, ("ask_lease", 2, until)) for to in others_of(replica)]
                    self.assertEqual(replica.flush(NOW), letters)

    def test_the_others(self):
        for replica in not_leaders():
            for until in (0, 50, FAR):
                self.assertEqual(changes(replica, replica.ask_lease, until), (False, {}))

    def test_a_time_below_0(self):
        for replica in not_leaders() + [leader_with(3)]:
            for until in (-1, -FAR):
                before = view(replica)
                self.assertIs(error_of(replica.ask_lease, until), BadArgument)
                self.assertEqual(view(replica), before)

    def test_the_end_of_a_lease(self):
        for size, needed in [(2, 1), (3, 1), (4, 2), (5, 2)]:
            replica = leader_with(2, size=size)
            replica.ask_lease(500)
            self.assertEqual(replica.lease_end, 0)
            replica.flush(NOW)
            self.assertEqual(replica.lease_end, 0)
            for many, other in enumerate(others_of(replica), start=1):
                replica.receive(other, ("give_lease", 2, 500), NOW)
                self.assertEqual(replica.lease_end, 500 if many >= needed else 0)

    def test_a_group_of_one(self):
        replica = leader_with(2, size=1)
        replica.flush(NOW)
        replica.ask_lease(500)
        self.assertEqual(replica.lease_end, 0)
        replica.flush(NOW)
        self.assertEqual(replica.lease_end, 500)

    def test_the_greatest_time_that_a_majority_has_promised(self):
        replica = leader_with(2, size=5)
        replica.ask_lease(400)
        replica.flush(NOW)
        for other, until, end in [(11, 900, 0), (12, 300, 300), (13, 350, 350), (14, 800, 400), (13, 700, 700),
                                  (12, 100, 700), (12, 750, 750), (11, 0, 750)]:
            replica.receive(other, ("give_lease", 2, until), NOW)
            self.assertEqual(replica.lease_end, end)

    def test_the_own_promise_counts_as_far_as_it_is_safe(self):
        replica = leader_with(2)
        replica.ask_lease(500)
        replica.receive(11, ("give_lease", 2, 600), NOW)
        self.assertEqual(replica.lease_end, 0)
        replica.receive(12, ("give_lease", 2, 400), NOW)
        self.assertEqual(replica.lease_end, 400)
        replica.flush(NOW)
        self.assertEqual(replica.lease_end, 500)

    def test_promises_of_earlier_terms_do_not_count(self):
        replica = leader_with(2)
        replica.receive(11, ("give_lease", 1, 600), NOW)
        replica.receive(12, ("give_lease", 1, 600), NOW)
        self.assertEqual(replica.lease_end, 0)

    def test_only_a_leader_has_a_lease(self):
        replica = leader_with(2)
        replica.ask_lease(500)
        replica.flush(NOW)
        replica.receive(11, ("give_lease", 2, 500), NOW)
        self.assertEqual(replica.lease_end, 500)
        replica.receive(12, ("behind", 3, 0), NOW)
        self.assertEqual(replica.lease_end, 0)
        for other in not_leaders():
            other.journal.make_promise(500)
            other.journal.sync()
            self.assertEqual(other.lease_end, 0)


if __name__ == "__main__":
    unittest.main()
