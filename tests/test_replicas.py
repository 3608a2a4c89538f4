"""Points 23 to 27 and 31: replicas, their elections and their crashes."""

import unittest

from meridian.clocks.spans import Span
from meridian.errors import BadArgument
from meridian.quorum import replicas
from meridian.quorum.replicas import CANDIDATE, FOLLOWER, LEADER, Replica
from tests.groups import A, B, C, D, NOW, candidate_with, changes, leader_with, others_of, replica_with, view
from tests.helpers import error_of

FAR = 10 ** 40


class NewReplicaTest(unittest.TestCase):

    def test_roles(self):
        self.assertEqual((replicas.FOLLOWER, replicas.CANDIDATE, replicas.LEADER), ("follower", "candidate", "leader"))

    def test_a_new_replica(self):
        for base in (0, 1, 12, FAR):
            for size in range(1, 6):
                for me in range(size):
                    replica = Replica(base, size, me)
                    self.assertEqual((replica.base, replica.size, replica.me), (base, size, me))
                    self.assertEqual(replica.address, base + me)
                    self.assertEqual((replica.role, replica.sure, replica.term), (FOLLOWER, 0, 0))
                    self.assertEqual((replica.outbox(), replica.sure_entries(), replica.lease_end), ([], [], 0))
                    self.assertEqual((replica.journal.term, replica.journal.vote, len(replica.journal)), (0, -1, 0))

    def test_arguments_out_of_range(self):
        for args in [(-1, 3, 0), (-FAR, 3, 0), (0, 0, 0), (0, -1, 0), (0, -3, -1), (0, 3, -1), (0, 3, 3), (0, 3, 4),
                     (0, 1, 1), (5, 3, 5), (0, 3, FAR), (-1, 0, -1)]:
            self.assertIs(error_of(Replica, *args), BadArgument, args)

    def test_post_and_outbox(self):
        replica = Replica(0, 3, 1)
        self.assertIsNone(replica.post(7, ("refuse", 3)))
        replica.post(2, ("query", 4))
        self.assertEqual(replica.outbox(), [(7, ("refuse", 3)), (2, ("query", 4))])
        replica.outbox().append(1)
        self.assertEqual(len(replica.outbox()), 2)


class StandTest(unittest.TestCase):

    def test_a_follower_stands(self):
        for base in (0, 7):
            for size in range(1, 6):
                for me in range(size):
                    replica = replica_with(4, [(2, A), (3, B)], base=base, size=size, me=me)
                    self.assertIs(replica.stand(NOW), True)
                    self.assertEqual((replica.role, replica.term, replica.journal.vote), (CANDIDATE, 5, me))
                    self.assertEqual(replica.outbox(), [(to, ("ask_vote", 5, 3, 2)) for to in others_of(replica)])
                    self.assertEqual((replica.journal.safe_ballot, replica.sure), ((4, -1), 0))

    def test_a_new_replica_stands(self):
        replica = Replica(10, 3, 1)
        self.assertIs(replica.stand(Span(1, 1)), True)
        self.assertEqual(replica.outbox(), [(10, ("ask_vote", 1, 0, 0)), (12, ("ask_vote", 1, 0, 0))])

    def test_promises_at_their_edges(self):
        for promise, low, possible in [(0, 0, False), (0, -5, False), (0, 1, True), (99, 100, True), (100, 100, False),
                                       (101, 100, False), (FAR, 100, False), (FAR, FAR + 1, True)]:
            for replica in (replica_with(promise=promise), replica_with(3, promise=promise, vote=2)):
                answer, changed = changes(replica, replica.stand, Span(low, low + 10))
                self.assertIs(answer, possible)
                self.assertEqual(changed == {}, not possible)

    def test_own_promise_counts_though_it_is_not_safe(self):
        replica = replica_with()
        replica.journal.make_promise(100)
        self.assertIs(replica.stand(NOW), False)
        self.assertIs(replica.stand(Span(101, 101)), True)

    def test_a_leader_does_not_stand(self):
        replica = leader_with(3)
        self.assertEqual(changes(replica, replica.stand, NOW), (False, {}))

    def test_a_candidate_stands_again_without_supporters(self):
        replica = candidate_with(1, size=5)
        replica.receive(11, ("give_vote", 1), NOW)
        self.assertIs(replica.stand(NOW), True)
        self.assertEqual((replica.role, replica.term, replica.journal.vote), (CANDIDATE, 2, 0))
        self.assertEqual(replica.outbox(), [(to, ("ask_vote", 2, 0, 0)) for to in (11, 12, 13, 14)])
        replica.flush(NOW)
        replica.receive(12, ("give_vote", 2), NOW)
        self.assertEqual(replica.role, CANDIDATE)
        replica.receive(13, ("give_vote", 2), NOW)
        self.assertEqual(replica.role, LEADER)

    def test_stand_does_not_review(self):
        replica = replica_with(4, size=1)
        replica.stand(NOW)
        self.assertEqual((replica.role, len(replica.journal)), (CANDIDATE, 0))


class FlushTest(unittest.TestCase):

    def test_what_flush_returns_and_syncs(self):
        replica = replica_with(1)
        replica.post(5, ("refuse", 1))
        replica.post(4, ("refuse", 2))
        replica.journal.put_entry(0, 1, A)
        replica.journal.make_promise(7)
        pairs = replica.flush(NOW)
        self.assertEqual(pairs, [(5, ("refuse", 1)), (4, ("refuse", 2))])
        self.assertIsInstance(pairs, list)
        pairs.append(1)
        self.assertEqual(view(replica)["outbox"], [])
        self.assertEqual(view(replica)["safe"], ((1, -1), 7, 1))
        self.assertEqual(replica.flush(NOW), [])

    def test_letters_wait_until_the_next_flush(self):
        replica = replica_with()
        self.assertEqual(replica.flush(NOW), [])
        replica.stand(NOW)
        self.assertEqual(len(replica.outbox()), 2)
        self.assertEqual(replica.flush(NOW), [(11, ("ask_vote", 1, 0, 0)), (12, ("ask_vote", 1, 0, 0))])
        self.assertEqual(replica.flush(NOW), [])

    def test_a_flush_reviews_after_the_sync(self):
        replica = candidate_with(1, safe=False)
        replica.receive(12, ("give_vote", 1), NOW)
        self.assertEqual(replica.role, CANDIDATE)
        pairs = replica.flush(Span(200, 210))
        self.assertEqual([to for to, _ in pairs], [11, 12])
        self.assertEqual((replica.role, replica.journal.entries()), (LEADER, [(1, ("floor", 210))]))
        self.assertEqual(replica.journal.safe_length, 0)


class ElectionTest(unittest.TestCase):

    def test_how_many_supporters_are_needed(self):
        for size, needed in [(2, 1), (3, 1), (4, 2), (5, 2)]:
            for me in (0, size - 1):
                replica = candidate_with(3, size=size, me=me)
                others = others_of(replica)
                for many, other in enumerate(others, start=1):
                    replica.receive(other, ("give_vote", 3), NOW)
                    self.assertEqual(replica.role, LEADER if many >= needed else CANDIDATE, (size, many))

    def test_the_own_vote_that_is_not_safe_is_not_counted(self):
        for size, needed in [(3, 2), (4, 3), (5, 3)]:
            replica = candidate_with(1, size=size, safe=False)
            for many, other in enumerate(others_of(replica)[:needed], start=1):
                self.assertEqual(replica.role, CANDIDATE)
                replica.receive(other, ("give_vote", 1), NOW)
            self.assertEqual((replica.role, many), (LEADER, needed))

    def test_a_safe_ballot_of_an_earlier_term_is_not_counted(self):
        replica = candidate_with(1)
        replica.stand(NOW)
        replica.receive(11, ("give_vote", 2), NOW)
        self.assertEqual(replica.role, CANDIDATE)
        replica.flush(NOW)
        self.assertEqual(replica.role, LEADER)

    def test_a_group_of_one(self):
        replica = replica_with(2, [(1, A)], size=1)
        replica.stand(NOW)
        self.assertEqual(replica.outbox(), [])
        replica.flush(NOW)
        self.assertEqual((replica.role, replica.sure), (LEADER, 0))
        self.assertEqual(replica.journal.entries(), [(1, A), (3, ("floor", 110))])
        replica.flush(NOW)
        self.assertEqual(replica.sure, 2)

    def test_the_same_supporter_twice(self):
        replica = candidate_with(1, size=5)
        for _ in range(3):
            replica.receive(13, ("give_vote", 1), NOW)
        self.assertEqual(replica.role, CANDIDATE)

    def test_opening_records(self):
        for log, high, time in [([], 110, 110), ([(1, ("floor", 108))], 110, 110), ([(1, ("floor", 109))], 110, 110),
                                ([(1, ("floor", 110))], 110, 111), ([(1, ("floor", 500))], 110, 501),
                                ([(1, ("done", 1, 400)), (1, ("floor", 300))], 110, 401), ([(1, C)], 110, 110),
                                ([(1, D)], 0, 9), ([], 1, 1), ([], 0, 1), ([], -3, 1)]:
            replica = candidate_with(2, log)
            replica.receive(11, ("give_vote", 2), Span(high - 10, high))
            self.assertEqual(replica.role, LEADER)
            self.assertEqual(replica.journal.entries(), log + [(2, ("floor", time))])
            self.assertEqual((replica.outbox(), replica.sure), ([], 0))

    def test_what_a_new_leader_knows_of_the_others(self):
        replica = leader_with(3, [(1, A), (2, B)])
        self.assertEqual(replica.lease_end, 0)
        for to in (11, 12):
            replica.send(to)
        opening = ((3, ("floor", 110)),)
        self.assertEqual(replica.outbox(), [(to, ("append", 3, 2, 2, opening, 0)) for to in (11, 12)])

    def test_example(self):
        first, second = Replica(20, 3, 0), Replica(20, 3, 1)
        first.stand(Span(1, 11))
        self.assertEqual(first.flush(Span(1, 11)), [(21, ("ask_vote", 1, 0, 0)), (22, ("ask_vote", 1, 0, 0))])
        second.receive(20, ("ask_vote", 1, 0, 0), Span(1, 11))
        self.assertEqual(second.flush(Span(1, 11)), [(20, ("give_vote", 1))])
        first.receive(21, ("give_vote", 1), Span(3, 13))
        self.assertEqual((first.role, first.journal.entries()), (LEADER, [(1, ("floor", 13))]))
        self.assertIs(first.send(21), True)
        self.assertEqual(first.outbox(), [(21, ("append", 1, 0, 0, ((1, ("floor", 13)),), 0))])


class SureTest(unittest.TestCase):

    def leader(self, size, log=()):
        """Return a leader with an old log and the opening record, all of it synced."""
        replica = leader_with(3, log, size=size)
        replica.flush(NOW)
        return replica

    def test_how_many_must_have_an_entry(self):
        for size, needed in [(2, 1), (3, 1), (4, 2), (5, 2)]:
            replica = self.leader(size)
            for many, other in enumerate(others_of(replica), start=1):
                replica.receive(other, ("appended", 3, 1), NOW)
                self.assertEqual(replica.sure, 1 if many >= needed else 0, (size, many))
            self.assertEqual(replica.sure_entries(), [(3, ("floor", 110))])

    def test_entries_of_earlier_terms_are_sure_only_together_with_one_of_this_term(self):
        replica = self.leader(3, [(1, A), (2, B)])
        for length in (1, 2):
            replica.receive(11, ("appended", 3, length), NOW)
            replica.receive(12, ("appended", 3, length), NOW)
            self.assertEqual(replica.sure, 0)
        replica.receive(12, ("appended", 3, 3), NOW)
        self.assertEqual(replica.sure, 3)
        self.assertEqual(replica.sure_entries(), [(1, A), (2, B), (3, ("floor", 110))])

    def test_the_greatest_number(self):
        replica = self.leader(5)
        for _ in range(4):
            replica.propose(A)
        replica.flush(NOW)
        for other, length, sure in [(11, 5, 0), (12, 3, 3), (13, 4, 4), (14, 5, 5)]:
            replica.receive(other, ("appended", 3, length), NOW)
            self.assertEqual(replica.sure, sure)

    def test_the_own_entries_count_as_far_as_they_are_safe(self):
        replica = self.leader(3)
        replica.propose(A)
        replica.propose(B)
        replica.receive(11, ("appended", 3, 3), NOW)
        self.assertEqual(replica.sure, 1)
        replica.flush(NOW)
        self.assertEqual(replica.sure, 3)

    def test_the_others_alone_can_be_a_majority(self):
        replica = leader_with(3)
        replica.receive(11, ("appended", 3, 1), NOW)
        self.assertEqual(replica.sure, 0)
        replica.receive(12, ("appended", 3, 1), NOW)
        self.assertEqual((replica.sure, replica.journal.safe_length), (1, 0))

    def test_sure_does_not_decrease(self):
        replica = self.leader(3)
        replica.propose(A)
        replica.flush(NOW)
        replica.receive(11, ("appended", 3, 2), NOW)
        self.assertEqual(replica.sure, 2)
        replica.propose(B)
        replica.receive(12, ("appended", 3, 1), NOW)
        replica.flush(NOW)
        self.assertEqual(replica.sure, 2)

    def test_every_letter_is_followed_by_a_review(self):
        for letter in [("give_vote", 3), ("appended", 3, 0), ("behind", 3, 0), ("ask_lease", 2, 50),
                       ("give_lease", 2, 50), ("append", 2, 0, 0, (), 0), ("ask_vote", 2, 0, 0)]:
            replica = self.leader(3)
            replica.propose(A)
            replica.receive(11, ("appended", 3, 2), NOW)
            self.assertEqual(replica.sure, 1)
            replica.journal.sync()
            replica.receive(12, letter, NOW)
            self.assertEqual(replica.sure, 2, letter)

    def test_a_follower_keeps_what_is_sure(self):
        replica = self.leader(3)
        replica.receive(11, ("appended", 3, 1), NOW)
        replica.receive(12, ("appended", 4, 0), NOW)
        self.assertEqual((replica.role, replica.sure), (FOLLOWER, 1))

    def test_a_returned_list_is_new(self):
        replica = self.leader(3)
        replica.receive(11, ("appended", 3, 1), NOW)
        replica.sure_entries().append(1)
        self.assertEqual(len(replica.sure_entries()), 1)


class CrashTest(unittest.TestCase):

    def test_what_a_crash_takes_away(self):
        for replica in (replica_with(2, [(1, A)]), candidate_with(2, [(1, A)]), leader_with(2, [(1, A)])):
            replica.flush(NOW)
            replica.post(12, ("refuse", 1))
            log, term = replica.journal.entries(), replica.term
            replica.journal.make_promise(500)
            self.assertIsNone(replica.crash())
            self.assertEqual((replica.role, replica.sure, replica.outbox()), (FOLLOWER, 0, []))
            self.assertEqual((replica.term, replica.journal.entries(), replica.journal.promise), (term, log, 0))

    def test_every_number_of_bytes(self):
        size = None
        for keep in range(40):
            for torn in (False, True):
                replica = leader_with(2, [(1, A)])
                replica.propose(B)
                replica.ask_lease(300)
                size = replica.journal.loose_size
                if keep > size:
                    self.assertIs(error_of(replica.crash, keep=keep), BadArgument)
                    continue
                twin = replica_with(1, [(1, A)])
                twin.journal.set_ballot(2, 0)
                twin.journal.sync()
                twin.journal.put_entry(1, 2, ("floor", 110))
                twin.journal.put_entry(2, 2, B)
                twin.journal.make_promise(300)
                last = 77 if torn else None
                replica.crash(keep=keep, last=last)
                twin.journal.crash(keep=keep, last=last)
                self.assertEqual(view(replica), view(twin))
        self.assertTrue(10 < size < 40)

    def test_arguments_out_of_range(self):
        for replica in (replica_with(2, [(1, A)]), leader_with(2, [(1, A)])):
            loose = replica.journal.loose_size
            for named in [{"keep": -1}, {"keep": loose + 1}, {"keep": FAR}, {"last": -1}, {"last": 256},
                          {"keep": 0, "last": FAR}]:
                before = view(replica)
                self.assertIs(error_of(replica.crash, **named), BadArgument)
                self.assertEqual(view(replica), before)

    def test_a_crash_forgets_supporters(self):
        replica = candidate_with(1, size=5)
        replica.receive(11, ("give_vote", 1), NOW)
        replica.crash()
        replica.stand(NOW)
        replica.flush(NOW)
        replica.receive(12, ("give_vote", 2), NOW)
        self.assertEqual(replica.role, CANDIDATE)

    def test_a_crash_forgets_what_a_leader_knew(self):
        replica = leader_with(1)
        replica.flush(NOW)
        replica.receive(11, ("appended", 1, 1), NOW)
        replica.receive(11, ("give_lease", 1, 90), NOW)
        replica.crash()
        replica.stand(NOW)
        replica.flush(NOW)
        replica.receive(12, ("give_vote", 2), NOW)
        self.assertEqual((replica.role, replica.sure, replica.lease_end), (LEADER, 0, 0))
        replica.send(11)
        self.assertEqual(replica.outbox(), [(11, ("append", 2, 1, 1, ((2, ("floor", 111)),), 0))])

    def test_an_election_that_a_crash_takes_away(self):
        replica = candidate_with(1, safe=False)
        replica.crash()
        self.assertEqual((replica.role, replica.term, replica.journal.vote), (FOLLOWER, 0, -1))
        replica.stand(NOW)
        self.assertEqual(replica.outbox()[0], (11, ("ask_vote", 1, 0, 0)))

    def test_an_own_vote_that_a_crash_leaves_does_not_elect(self):
        for size in (1, 3):
            replica = replica_with(4, size=size)
            replica.stand(NOW)
            replica.journal.sync()
            replica.crash()
            self.assertEqual((replica.journal.safe_ballot, replica.role), ((5, 0), FOLLOWER))
            replica.flush(NOW)
            self.assertEqual((replica.role, len(replica.journal)), (FOLLOWER, 0))

    def test_a_replica_goes_on_after_a_crash(self):
        replica = leader_with(2, [(1, A)])
        replica.flush(NOW)
        replica.crash()
        replica.receive(11, ("append", 3, 2, 2, ((3, B),), 3), NOW)
        self.assertEqual(replica.sure_entries(), [(1, A), (2, ("floor", 110)), (3, B)])


if __name__ == "__main__":
    unittest.main()
