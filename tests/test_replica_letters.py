"""Point 28: the letters that a replica receives."""

import unittest

from meridian.clocks.spans import Span
from meridian.quorum.replicas import CANDIDATE, FOLLOWER, LEADER
from tests.groups import A, B, C, D, NOW, candidate_with, changes, leader_with, replica_with, view
from tests.helpers import dice, error_of


class LetterTest(unittest.TestCase):

    def receive(self, replica, letter, wanted, *, sender=12, span=NOW):
        """Check that a letter changes just what is wanted; a letter in the outbox stands for the whole outbox."""
        before = len(replica.outbox())
        answer, changed = changes(replica, replica.receive, sender, letter, span)
        self.assertIsNone(answer)
        for name in ("notes", "loose", "safe"):
            changed.pop(name, None)
        if "outbox" in changed:
            changed["outbox"] = changed["outbox"][before:]
        self.assertEqual(changed, wanted)


class StepDownTest(LetterTest):

    def test_group_letters_of_a_greater_term(self):
        letters = [("give_vote", 5), ("appended", 5, 1), ("behind", 5, 0), ("give_lease", 5, 90)]
        for letter in letters:
            for replica in (replica_with(3, [(1, A)], vote=1), candidate_with(3, [(1, A)]), leader_with(3, [(1, A)])):
                wanted = {"term": 5, "ballot": (5, -1)}
                if replica.role != FOLLOWER:
                    wanted["role"] = FOLLOWER
                self.receive(replica, letter, wanted)

    def test_append_and_ask_lease_of_a_greater_term(self):
        for make in (replica_with, candidate_with, leader_with):
            for letter, answer in [(("append", 5, 0, 0, (), 0), ("appended", 5, 0)),
                                   (("ask_lease", 5, 7), ("give_lease", 5, 7))]:
                replica = make(3)
                wanted = {"term": 5, "ballot": (5, -1), "outbox": [(12, answer)]}
                if replica.role != FOLLOWER:
                    wanted["role"] = FOLLOWER
                if letter[0] == "ask_lease":
                    wanted["promise"] = 7
                self.receive(replica, letter, wanted)

    def test_letters_of_a_greater_term_are_not_kept_back_by_a_promise(self):
        replica = replica_with(3, promise=500)
        self.receive(replica, ("behind", 4, 0), {"term": 4, "ballot": (4, -1)})

    def test_answers_of_an_earlier_term(self):
        for letter in [("give_vote", 2), ("appended", 2, 9), ("behind", 2, 0), ("give_lease", 2, 90)]:
            for replica in (replica_with(3, vote=1), candidate_with(3), leader_with(3)):
                self.receive(replica, letter, {})

    def test_answers_for_another_role(self):
        for replica in (replica_with(3, vote=1), leader_with(3)):
            self.receive(replica, ("give_vote", 3), {})
        for letter in [("appended", 3, 9), ("behind", 3, 0), ("give_lease", 3, 90)]:
            for replica in (replica_with(3, vote=1), candidate_with(3)):
                self.receive(replica, letter, {})

    def test_a_leader_that_stepped_down_and_leads_again(self):
        replica = leader_with(1)
        replica.flush(NOW)
        replica.receive(11, ("appended", 1, 1), NOW)
        replica.receive(12, ("behind", 2, 0), NOW)
        self.assertEqual(replica.role, FOLLOWER)
        replica.stand(NOW)
        replica.flush(NOW)
        replica.receive(12, ("give_vote", 3), NOW)
        replica.flush(NOW)
        self.assertEqual((replica.role, replica.sure, replica.lease_end), (LEADER, 1, 0))
        replica.receive(12, ("appended", 3, 1), NOW)
        self.assertEqual(replica.sure, 1)
        replica.receive(12, ("appended", 3, 2), NOW)
        self.assertEqual(replica.sure, 2)


class AskVoteTest(LetterTest):

    def test_an_earlier_term(self):
        for promise in (0, 99, 500):
            replica = replica_with(3, [(1, A), (3, B)], promise=promise)
            self.receive(replica, ("ask_vote", 2, 9, 9), {"outbox": [(12, ("behind", 3, 2))]})
        for make in (candidate_with, leader_with):
            replica = make(3)
            many = len(replica.journal)
            self.receive(replica, ("ask_vote", 2, 9, 9), {"outbox": [(12, ("behind", 3, many))]})

    def test_promises_at_their_edges(self):
        for promise, low, possible in [(99, 100, True), (100, 100, False), (101, 100, False), (0, 0, False), (0, 1, True)]:
            for term in (3, 4):
                replica = replica_with(3, promise=promise)
                wanted = {"ballot": (term, 2), "outbox": [(12, ("give_vote", term))]}
                if term == 4:
                    wanted["term"] = 4
                self.receive(replica, ("ask_vote", term, 0, 0), wanted if possible else {}, span=Span(low, low + 10))

    def test_a_promise_keeps_a_leader_from_stepping_down(self):
        replica = leader_with(3)
        replica.ask_lease(100)
        self.receive(replica, ("ask_vote", 9, 9, 9), {})
        self.receive(replica, ("ask_vote", 9, 9, 9), {
            "role": FOLLOWER, "term": 9, "ballot": (9, 2), "outbox": [(12, ("give_vote", 9))]}, span=Span(101, 101))

    def test_who_has_voted(self):
        for vote, possible in [(-1, True), (2, True), (0, False), (1, False)]:
            replica = replica_with(3, vote=vote)
            wanted = {"outbox": [(12, ("give_vote", 3))]}
            if vote == -1:
                wanted["ballot"] = (3, 2)
            self.receive(replica, ("ask_vote", 3, 0, 0), wanted if possible else {})

    def test_a_vote_of_an_earlier_term_does_not_count(self):
        replica = replica_with(3, vote=1)
        self.receive(replica, ("ask_vote", 4, 0, 0), {"term": 4, "ballot": (4, 2), "outbox": [(12, ("give_vote", 4))]})

    def test_candidates_and_leaders_of_this_term(self):
        for make in (candidate_with, leader_with):
            self.receive(make(3), ("ask_vote", 3, 9, 9), {})

    def test_candidates_and_leaders_of_an_earlier_term(self):
        for make in (candidate_with, leader_with):
            self.receive(make(3), ("ask_vote", 4, 9, 9), {
                "role": FOLLOWER, "term": 4, "ballot": (4, 2), "outbox": [(12, ("give_vote", 4))]})

    def test_logs(self):
        for last, length, possible in [(3, 2, True), (3, 3, True), (3, 1, False), (2, 9, False), (4, 1, True),
                                       (4, 0, True), (0, 0, False)]:
            replica = replica_with(5, [(1, A), (3, B)])
            wanted = {"ballot": (5, 2), "outbox": [(12, ("give_vote", 5))]}
            self.receive(replica, ("ask_vote", 5, last, length), wanted if possible else {})

    def test_the_term_is_taken_though_the_vote_is_not_given(self):
        for make, role in [(replica_with, None), (candidate_with, FOLLOWER), (leader_with, FOLLOWER)]:
            replica = make(5, [(1, A), (3, B)])
            wanted = {"term": 6, "ballot": (6, -1)}
            if role is not None:
                wanted["role"] = role
            self.receive(replica, ("ask_vote", 6, 3, 1), wanted)

    def test_member_numbers(self):
        for base in (0, 4, 30):
            replica = replica_with(1, base=base, size=5, me=3)
            replica.receive(base + 4, ("ask_vote", 2, 0, 0), NOW)
            self.assertEqual((replica.journal.vote, replica.outbox()), (4, [(base + 4, ("give_vote", 2))]))


class AppendTest(LetterTest):

    LOG = [(1, A), (1, B), (3, C)]

    def test_an_earlier_term(self):
        replica = replica_with(3, self.LOG)
        self.receive(replica, ("append", 2, 0, 0, ((2, D),), 1), {"outbox": [(12, ("behind", 3, 3))]})
        for make, many in [(candidate_with, 0), (leader_with, 1)]:
            self.receive(make(3), ("append", 2, 0, 0, (), 0), {"outbox": [(12, ("behind", 3, many))]})

    def test_a_leader_of_this_term(self):
        self.receive(leader_with(3), ("append", 3, 0, 0, ((3, D),), 1), {})

    def test_a_candidate_of_this_term_becomes_a_follower(self):
        replica = candidate_with(3)
        self.receive(replica, ("append", 3, 0, 0, ((2, A),), 0), {
            "role": FOLLOWER, "log": [(2, A)], "outbox": [(12, ("appended", 3, 1))]})
        replica = candidate_with(3)
        self.receive(replica, ("append", 3, 4, 2, (), 0), {"role": FOLLOWER, "outbox": [(12, ("behind", 3, 0))]})
        self.assertEqual(replica.journal.vote, 0)

    def test_a_candidate_that_became_a_follower_has_no_supporters(self):
        replica = candidate_with(3, size=5)
        replica.receive(11, ("give_vote", 3), NOW)
        replica.receive(12, ("append", 3, 0, 0, (), 0), NOW)
        self.receive(replica, ("give_vote", 3), {}, sender=13)
        self.receive(replica, ("give_vote", 3), {}, sender=14)

    def test_a_start_behind_the_log(self):
        for start, length in [(4, 3), (5, 3), (99, 3)]:
            for previous in (0, 1, 3):
                replica = replica_with(3, self.LOG)
                self.receive(replica, ("append", 3, start, previous, ((3, D),), 9), {
                    "outbox": [(12, ("behind", 3, length))]})

    def test_a_wrong_previous(self):
        for start, right in [(1, 1), (2, 1), (3, 3)]:
            for previous in (0, 1, 2, 3, 4):
                replica = replica_with(4, self.LOG)
                wanted = {"outbox": [(12, ("behind", 4, start - 1))]}
                if previous == right:
                    wanted = {"outbox": [(12, ("appended", 4, start))]}
                self.receive(replica, ("append", 4, start, previous, (), 0), wanted)

    def test_the_previous_of_the_first_entry_does_not_matter(self):
        for previous in (0, 1, 7):
            replica = replica_with(3, self.LOG)
            self.receive(replica, ("append", 3, 0, previous, (), 0), {"outbox": [(12, ("appended", 3, 0))]})

    def test_no_entries_do_not_cut_the_log(self):
        for start, previous in [(0, 0), (1, 1), (2, 1), (3, 3)]:
            replica = replica_with(3, self.LOG)
            self.receive(replica, ("append", 3, start, previous, (), 0), {"outbox": [(12, ("appended", 3, start))]})

    def test_entries_at_every_place(self):
        for start, previous in [(0, 0), (1, 1), (2, 1), (3, 3)]:
            for many in (1, 2, 4):
                entries = tuple([(4, D), (4, C), (5, B), (5, A)][:many])
                replica = replica_with(5, self.LOG)
                self.receive(replica, ("append", 5, start, previous, entries, 0), {
                    "log": self.LOG[:start] + list(entries), "outbox": [(12, ("appended", 5, start + many))]})

    def test_entries_that_are_there_already(self):
        replica = replica_with(3, self.LOG)
        notes = len(replica.journal.notes())
        for start, previous in [(0, 0), (1, 1), (2, 1)]:
            for end in range(start + 1, 4):
                self.receive(replica, ("append", 3, start, previous, tuple(self.LOG[start:end]), 0), {
                    "outbox": [(12, ("appended", 3, end))]})
        self.assertEqual(len(replica.journal.notes()), notes)
        self.assertEqual(replica.journal.safe_length, 3)

    def test_entries_of_which_the_first_are_there(self):
        replica = replica_with(4, self.LOG)
        notes = len(replica.journal.notes())
        entries = ((1, B), (4, D), (4, A))
        self.receive(replica, ("append", 4, 1, 1, entries, 0), {
            "log": [(1, A), (1, B), (4, D), (4, A)], "outbox": [(12, ("appended", 4, 4))]})
        self.assertEqual(replica.journal.notes()[notes:], [("entry", 2, 4, D), ("entry", 3, 4, A)])

    def test_only_the_term_of_an_entry_that_is_there_is_looked_at(self):
        replica = replica_with(3, self.LOG)
        self.receive(replica, ("append", 3, 1, 1, ((1, D),), 0), {"outbox": [(12, ("appended", 3, 2))]})

    def test_sure(self):
        for start, many, told, sure in [(3, 0, 0, 0), (3, 0, 2, 2), (3, 0, 3, 3), (3, 0, 9, 3), (3, 2, 9, 5),
                                        (3, 2, 4, 4), (1, 0, 3, 1), (1, 1, 3, 2), (0, 0, 3, 0)]:
            replica = replica_with(3, self.LOG)
            entries = ((3, A), (3, B))[:many] if start == 3 else tuple(self.LOG[start:start + many])
            replica.receive(12, ("append", 3, start, {0: 0, 1: 1, 3: 3}[start], entries, told), NOW)
            self.assertEqual(replica.sure, sure)
            self.assertEqual(replica.sure_entries(), replica.journal.entries()[:sure])

    def test_sure_does_not_decrease(self):
        replica = replica_with(3, self.LOG)
        replica.receive(12, ("append", 3, 3, 3, (), 3), NOW)
        for told in (0, 1, 2, 3):
            self.receive(replica, ("append", 3, 3, 3, (), told), {"outbox": [(12, ("appended", 3, 3))]})
        self.receive(replica, ("append", 3, 1, 1, (), 9), {"outbox": [(12, ("appended", 3, 1))]})
        self.assertEqual(replica.sure, 3)

    def test_a_wrong_append_makes_nothing_sure(self):
        replica = replica_with(3, self.LOG)
        self.receive(replica, ("append", 3, 3, 2, (), 3), {"outbox": [(12, ("behind", 3, 2))]})

    def test_the_answer_tells_the_new_term(self):
        replica = replica_with(3, self.LOG)
        self.receive(replica, ("append", 7, 5, 6, (), 3), {
            "term": 7, "ballot": (7, -1), "outbox": [(12, ("behind", 7, 3))]})


class AnswersToALeaderTest(LetterTest):

    def sent(self, replica, to=11):
        """Return the start of what a leader sends."""
        replica.send(to)
        return replica.outbox()[-1][1][2]

    def leader(self):
        """Return a leader with three entries, none of which is safe at another replica."""
        replica = leader_with(3, [(1, A)])
        replica.propose(B)
        return replica

    def test_appended_raises_the_next_index(self):
        replica = self.leader()
        for length, start in [(0, 1), (1, 1), (2, 2), (1, 2), (3, 3), (0, 3)]:
            replica.receive(11, ("appended", 3, length), NOW)
            self.assertEqual(self.sent(replica), start)
        self.assertEqual(self.sent(replica, 12), 1)

    def test_behind_lowers_the_next_index(self):
        replica = self.leader()
        for length, start in [(5, 1), (1, 1), (0, 0), (1, 0)]:
            replica.receive(11, ("behind", 3, length), NOW)
            self.assertEqual(self.sent(replica), start)
        self.assertEqual(self.sent(replica, 12), 1)

    def test_behind_does_not_go_below_the_matched_length(self):
        replica = self.leader()
        replica.receive(11, ("appended", 3, 2), NOW)
        for length in (2, 1, 0):
            replica.receive(11, ("behind", 3, length), NOW)
            self.assertEqual(self.sent(replica), 2)
        replica.receive(11, ("appended", 3, 3), NOW)
        replica.receive(11, ("behind", 3, 2), NOW)
        self.assertEqual(self.sent(replica), 3)

    def test_the_matched_length_does_not_decrease(self):
        replica = self.leader()
        replica.flush(NOW)
        replica.receive(11, ("appended", 3, 3), NOW)
        self.assertEqual(replica.sure, 3)
        replica.propose(C)
        replica.flush(NOW)
        replica.receive(11, ("appended", 3, 1), NOW)
        self.assertEqual(self.sent(replica), 3)

    def test_the_next_index_and_the_matched_length_are_not_the_same(self):
        replica = leader_with(3, [(1, A), (2, B)])
        replica.flush(NOW)
        replica.receive(11, ("behind", 3, 1), NOW)
        self.assertEqual((self.sent(replica), replica.sure), (1, 0))
        replica.receive(11, ("behind", 3, 0), NOW)
        self.assertEqual(self.sent(replica), 0)

    def test_each_replica_has_its_own_indexes(self):
        replica = leader_with(3, [(1, A), (2, B)], size=4)
        replica.receive(11, ("appended", 3, 3), NOW)
        replica.receive(13, ("behind", 3, 1), NOW)
        self.assertEqual([self.sent(replica, to) for to in (11, 12, 13)], [3, 2, 1])


class AskLeaseTest(LetterTest):

    def test_a_follower(self):
        for promise, until, new in [(0, 0, 0), (0, 7, 7), (7, 7, 7), (9, 7, 9), (500, 700, 700)]:
            replica = replica_with(3, promise=promise, vote=1)
            wanted = {"outbox": [(12, ("give_lease", 3, new))]}
            if new != promise:
                wanted["promise"] = new
            self.receive(replica, ("ask_lease", 3, until), wanted)

    def test_an_earlier_term(self):
        for make in (replica_with, candidate_with, leader_with):
            self.receive(make(3), ("ask_lease", 2, 500), {})

    def test_a_leader_of_this_term(self):
        self.receive(leader_with(3), ("ask_lease", 3, 500), {})

    def test_a_candidate_of_this_term(self):
        replica = candidate_with(3)
        self.receive(replica, ("ask_lease", 3, 500), {
            "role": FOLLOWER, "promise": 500, "outbox": [(12, ("give_lease", 3, 500))]})
        self.assertEqual(replica.journal.vote, 0)
        self.receive(replica, ("give_vote", 3), {})

    def test_a_promise_is_safe_after_the_flush_only(self):
        replica = replica_with(3)
        replica.receive(12, ("ask_lease", 3, 500), NOW)
        self.assertEqual(replica.journal.safe_promise, 0)
        self.assertEqual(replica.flush(NOW), [(12, ("give_lease", 3, 500))])
        self.assertEqual(replica.journal.safe_promise, 500)


class ReviewTest(LetterTest):

    def test_a_review_behind_any_letter(self):
        for letter in [("give_vote", 2), ("appended", 3, 1), ("behind", 3, 0), ("give_lease", 3, 5),
                       ("ask_lease", 2, 9), ("append", 2, 0, 0, (), 0), ("ask_vote", 2, 0, 0), ("ask_vote", 3, 0, 0)]:
            replica = candidate_with(3, safe=False)
            replica.receive(11, ("give_vote", 3), NOW)
            self.assertEqual(replica.role, CANDIDATE)
            replica.journal.sync()
            replica.receive(12, letter, Span(300, 310))
            self.assertEqual((replica.role, replica.journal.entries()), (LEADER, [(3, ("floor", 310))]), letter)

    def test_a_letter_that_ends_the_candidacy_comes_before_the_review(self):
        for letter in [("append", 3, 0, 0, (), 0), ("ask_lease", 3, 9), ("behind", 4, 0), ("ask_vote", 4, 0, 0)]:
            replica = candidate_with(3, safe=False)
            replica.receive(11, ("give_vote", 3), NOW)
            replica.journal.sync()
            replica.receive(12, letter, NOW)
            self.assertEqual((replica.role, len(replica.journal)), (FOLLOWER, 0))


class AnyLettersTest(unittest.TestCase):

    def test_what_always_holds_for_one_replica(self):
        """Any letters that pass a seal leave the ballot, the promise and the sure entries as they may be."""
        source = dice(28)
        for size in (1, 2, 3, 5):
            for _ in range(60):
                replica = replica_with(base=10, size=size, me=source.randrange(size))
                for _ in range(30):
                    before = view(replica)
                    self.act(source, replica)
                    after = view(replica)
                    self.assertTrue(after["ballot"][0] >= before["ballot"][0])
                    self.assertTrue(after["promise"] >= before["promise"])
                    self.assertEqual(after["sure_entries"][:before["sure"]], before["sure_entries"])
                    self.assertEqual(after["lease_end"] > 0 and after["role"] != LEADER, False)

    def act(self, source, replica):
        choice = source.randrange(8)
        others = [to for to in range(10, 10 + replica.size) if to != replica.address]
        if choice == 0:
            replica.stand(NOW)
        elif choice == 1:
            replica.flush(NOW)
        elif choice == 2:
            replica.propose(source.choice([A, B, C, D]))
        elif others:
            sender = source.choice(others)
            term = replica.term + source.choice([-1, 0, 0, 0, 1]) if replica.term else 1
            if choice < 6:
                replica.receive(sender, ("give_vote", term), NOW)
            elif choice == 6:
                length = source.randrange(len(replica.journal) + 1)
                replica.receive(sender, (source.choice(["appended", "behind"]), term, length), NOW)
            else:
                replica.receive(sender, (source.choice(["ask_lease", "give_lease"]), term, source.randrange(90)), NOW)


if __name__ == "__main__":
    unittest.main()
