"""Point 43: the client letters that a service handles."""

import unittest

from meridian.clocks.spans import Span
from meridian.deals.service import Service
from tests.groups import NOW, leader_with
from tests.services import (BEGIN, SENDER, effect, give_write_lock, make_sure, prepare, service_with, take_locks,
                            unready_services)

FAR = 10 ** 40

# A transaction 5 that writes b is held in the sure state alone, in the full state alone, and in both.
HELD = [([prepare(5, 30, "a", "b")], [("decide", 5, 0)]), ([], [prepare(5, 30, "a", "b")]),
        ([prepare(5, 30, "a", "b")], [])]


class LetterTest(unittest.TestCase):

    def check(self, pair, letter, *, answer=None, span=NOW, **wanted):
        """Check that a letter changes just what is wanted."""
        replica, service = pair
        if answer is not None:
            wanted["outbox"] = [(SENDER, answer)]
        self.assertEqual(effect(replica, service, service.handle, SENDER, letter, span), (None, wanted))


class NoEffectTest(LetterTest):

    LETTERS = [("read", 9, "a", 0), ("read", 8, "a", 0), ("prepare", 9, 0, 1, (), (("c", 1),)),
               ("prepare", 1, 0, 1, (), (("c", 1),)), ("prepare", 8, 0, 1, (), ()), ("commit", 1, ((1, 6),)),
               ("commit", 8, ((1, 6),)), ("query", 9), ("query", 8), ("told", 1, 0), ("told", 1, 9), ("look", 3, "a", 0)]

    def test_replicas_that_are_not_ready_leaders(self):
        for pair in unready_services():
            for letter in self.LETTERS:
                self.check(pair, letter)

    def test_the_same_letters_at_a_ready_leader(self):
        for letter in self.LETTERS:
            replica, service = service_with([("floor", 25), prepare(1, 26, "a", "b"), ("decide", 8, 0)])
            _, changed = effect(replica, service, service.handle, SENDER, letter, NOW)
            self.assertNotEqual(changed, {}, letter)

    def test_letters_that_only_clients_and_readers_receive(self):
        for letter in [("value", 1, "a", 5, 2), ("value", 1, "a", None, 0), ("prepared", 1, 0, 26), ("refuse", 1),
                       ("outcome", 1, 30), ("outcome", 1, 0), ("seen", 3, "a", 5)]:
            self.check(service_with([prepare(1, 26, "a", "b")]), letter)

    def test_a_letter_does_not_review(self):
        for letter in [("read", 9, "a", 0), ("query", 9), ("refuse", 9)]:
            replica, service = service_with()
            replica.propose(("floor", 90))
            replica.receive(4, ("appended", 2, 2), NOW)
            replica.journal.sync()
            service.handle(SENDER, letter, NOW)
            self.assertEqual(replica.sure, 1)
        replica.flush(NOW)
        self.assertEqual(replica.sure, 2)


class ReadTest(LetterTest):

    def test_terms(self):
        for term in (0, 2):
            self.check(service_with(), ("read", 5, "a", term), answer=("value", 5, "a", None, 2), locks=[("a", 5, False)])
        for term in (1, 3, FAR):
            self.check(service_with(), ("read", 5, "a", term), answer=("refuse", 5))

    def test_values(self):
        records = [("prepare", 1, 30, 1, (), (("a", 7), ("b", 8))), ("decide", 1, 900),
                   ("prepare", 2, 901, 1, (), (("b", None),)), ("decide", 2, 950)]
        for key, value in [("a", 7), ("b", None), ("c", None)]:
            self.check(service_with(records), ("read", 5, key, 0), answer=("value", 5, key, value, 2), locks=[(key, 5, False)])

    def test_a_value_comes_from_the_sure_state(self):
        pair = service_with([("prepare", 1, 30, 1, (), (("a", 7),)), ("decide", 1, 40), ("prepare", 2, 50, 1, (), (("a", 9),))])
        pair[0].propose(("decide", 2, 60))
        self.check(pair, ("read", 5, "a", 0))
        make_sure(pair[0])
        self.check(pair, ("read", 5, "a", 0), answer=("value", 5, "a", 9, 2), locks=[("a", 5, False)])

    def test_a_shut_transaction(self):
        for term in (0, 2, 3):
            pair = service_with()
            take_locks(*pair, (5, "a"))
            pair[1].ask(5)
            self.check(pair, ("read", 5, "b", term), answer=("refuse", 5))
            self.check(pair, ("read", 6, "b", 0), answer=("value", 6, "b", None, 2), locks=[("b", 6, False)])

    def test_an_outcome_in_the_full_state(self):
        for outcome in (0, 40):
            for sure, full in [([prepare(5, 30), ("decide", 5, outcome)], []), ([prepare(5, 30)], [("decide", 5, outcome)]),
                               ([], [prepare(5, 30), ("decide", 5, outcome)])]:
                self.check(service_with(sure, full), ("read", 5, "z", 0), answer=("refuse", 5))

    def test_the_transaction_is_held(self):
        for sure, full in HELD[1:]:
            for key in ("a", "b", "z"):
                self.check(service_with(sure, full), ("read", 5, key, 0))
        for key in ("a", "b", "z"):
            self.check(service_with(*HELD[0]), ("read", 5, key, 0), answer=("refuse", 5))

    def test_another_transaction_that_writes_the_key_is_held(self):
        for sure, full in HELD:
            for txn in (4, 6):
                self.check(service_with(sure, full), ("read", txn, "b", 0))
                for key in ("a", "z"):
                    self.check(service_with(sure, full), ("read", txn, key, 0), answer=("value", txn, key, None, 2),
                               locks=[(key, txn, False)])

    def test_the_first_case_comes_before_the_second(self):
        self.check(service_with([prepare(5, 30, "", "b")]), ("read", 6, "b", 3), answer=("refuse", 6))
        self.check(service_with([prepare(5, 30, "", "b")]), ("read", 5, "b", 3), answer=("refuse", 5))

    def test_locks_for_reading_are_shared(self):
        for txn in (3, 7):
            pair = service_with()
            take_locks(*pair, (5, "a"))
            self.check(pair, ("read", txn, "a", 0), answer=("value", txn, "a", None, 2),
                       locks=sorted([("a", 5, False), ("a", txn, False)]))

    def test_the_same_key_twice(self):
        pair = service_with()
        take_locks(*pair, (5, "a"))
        self.check(pair, ("read", 5, "a", 2), answer=("value", 5, "a", None, 2))

    def test_locks_for_writing(self):
        for txn, wanted in [(6, {}), (4, {"answer": ("value", 4, "a", None, 2), "locks": [("a", 4, False), ("c", 7, False)],
                                          "shut": [5]}),
                            (5, {"answer": ("value", 5, "a", None, 2)})]:
            pair = service_with()
            take_locks(*pair, (5, "b"), (7, "c"))
            give_write_lock(pair[1], "a", 5)
            self.check(pair, ("read", txn, "a", 0), **wanted)


class PrepareTest(LetterTest):

    def letter(self, txn=5, term=0, reads="", writes="b", lead=0):
        return ("prepare", txn, term, lead, tuple(reads), tuple((key, 10 * txn) for key in writes))

    def test_an_outcome_in_the_full_state(self):
        for sure, full in [([prepare(5, 30)], [("decide", 5, 0)]), ([prepare(5, 30), ("decide", 5, 0)], []),
                           ([], [("decide", 5, 0)]), ([("done", 5, 0)], [])]:
            for term in (0, 2, 3):
                self.check(service_with(sure, full), self.letter(term=term), answer=("refuse", 5))
        for sure, full in [([prepare(5, 30)], [("decide", 5, 40)]), ([prepare(5, 30), ("done", 5, 40)], [])]:
            for term in (0, 2, 3):
                self.check(service_with(sure, full), self.letter(term=term))

    def test_it_is_held(self):
        for term in (0, 2, 3):
            self.check(service_with([prepare(5, 30, "", "b")]), self.letter(term=term), answer=("prepared", 5, 1, 30))
            self.check(service_with([], [prepare(5, 30, "", "b")]), self.letter(term=term))
        for size, base, group in [(3, 0, 0), (3, 9, 3), (1, 4, 4)]:
            self.check(service_with([prepare(5, 30)], base=base, size=size), self.letter(), answer=("prepared", 5, group, 30))

    def test_terms(self):
        for term in (1, 3, FAR):
            self.check(service_with(), self.letter(term=term), answer=("refuse", 5))
        for term in (0, 2):
            self.check(service_with(), self.letter(term=term, lead=7), log=[("prepare", 5, 21, 7, (), (("b", 50),))])

    def test_a_shut_transaction(self):
        pair = service_with()
        take_locks(*pair, (5, "a"))
        pair[1].ask(5)
        self.check(pair, self.letter(), answer=("refuse", 5))

    def test_locks_on_the_reads(self):
        for reads, possible in [("", True), ("a", True), ("ac", True), ("ab", False), ("b", False), ("abc", False), ("d", False)]:
            pair = service_with()
            take_locks(*pair, (5, "a"), (5, "c"), (6, "b"), (6, "d"))
            letter = self.letter(reads=reads, writes="z")
            if possible:
                self.check(pair, letter, log=[("prepare", 5, 21, 0, tuple(reads), (("z", 50),))],
                           locks=[("b", 6, False), ("d", 6, False)])
            else:
                self.check(pair, letter, answer=("refuse", 5))

    def test_a_lock_for_writing_is_a_lock_on_a_read(self):
        pair = service_with()
        give_write_lock(pair[1], "a", 5)
        self.check(pair, self.letter(reads="a", writes=""), log=[("prepare", 5, 21, 0, ("a",), ())], locks=[])

    def test_conflicts_with_held_transactions(self):
        for sure, full in HELD:
            for txn in (4, 6):
                for writes, possible in [("b", False), ("a", False), ("c", True), ("", True), ("ac", False), ("bc", False)]:
                    wanted = {"log": [("prepare", txn, 31, 0, (), tuple((key, 10 * txn) for key in writes))]}
                    self.check(service_with(sure, full), self.letter(txn=txn, writes=writes), **(wanted if possible else {}))

    def test_conflicts_of_reads(self):
        for sure, full in HELD:
            pair = service_with()
            take_locks(*pair, (6, "a"), (6, "b"), (6, "c"))
            for record in sure:
                pair[0].propose(record)
            make_sure(pair[0])
            pair[0].flush(NOW)
            for record in full:
                pair[0].propose(record)
            self.check(pair, self.letter(txn=6, reads="b", writes="c"))
            self.check(pair, self.letter(txn=6, reads="ab", writes=""))
            self.check(pair, self.letter(txn=6, reads="a", writes="c"), log=[("prepare", 6, 31, 0, ("a",), (("c", 60),))],
                       locks=[])

    def test_the_third_case_comes_before_the_fourth(self):
        self.check(service_with([prepare(5, 30, "", "b")]), self.letter(txn=6, term=3), answer=("refuse", 6))
        self.check(service_with([prepare(5, 30, "", "b")]), self.letter(txn=6, reads="c"), answer=("refuse", 6))

    def test_write_locks_that_must_be_waited_for(self):
        for writes, txn, waits in [("a", 5, True), ("a", 3, False), ("ab", 5, True), ("bz", 5, False), ("abz", 8, True), ("z", 8, False)]:
            pair = service_with()
            take_locks(*pair, (4, "a"), (7, "b"))
            if waits:
                self.check(pair, self.letter(txn=txn, writes=writes))
                continue
            victims = [other for key, other in (("a", 4), ("b", 7)) if key in writes]
            wanted = {"log": [("prepare", txn, 21, 0, (), tuple((key, 10 * txn) for key in writes))]}
            if victims:
                wanted.update(shut=victims, locks=[lock for lock in [("a", 4, False), ("b", 7, False)] if lock[1] not in victims])
            self.check(pair, self.letter(txn=txn, writes=writes), **wanted)

    def test_nobody_is_wounded_if_one_lock_must_be_waited_for(self):
        pair = service_with()
        take_locks(*pair, (8, "a"), (2, "b"), (9, "c"))
        self.check(pair, self.letter(writes="abc"))

    def test_all_victims_are_shut_with_all_their_locks(self):
        pair = service_with()
        take_locks(*pair, (8, "a"), (9, "a"), (9, "b"), (7, "b"), (8, "z"), (6, "y"), (5, "a"), (5, "x"))
        self.check(pair, self.letter(reads="ax", writes="ab"), log=[("prepare", 5, 21, 0, ("a", "x"), (("a", 50), ("b", 50)))],
                   locks=[("y", 6, False)], shut=[7, 8, 9])
        self.check(pair, ("read", 8, "q", 0), answer=("refuse", 8))

    def test_own_locks_are_no_hindrance(self):
        pair = service_with()
        take_locks(*pair, (5, "a"))
        self.check(pair, self.letter(reads="a", writes="a"), log=[("prepare", 5, 21, 0, ("a",), (("a", 50),))], locks=[])

    def test_the_time(self):
        for sure, full, looks, time in [([], [], (), 21), ([("floor", 300)], [], (), 301), ([], [("floor", 300)], (), 301),
                                        ([], [prepare(1, 40)], (), 41), ([], [], (15,), 21), ([], [], (20,), 21),
                                        ([], [], (21,), 22), ([], [], (80, 50), 81), ([("floor", 300)], [], (90,), 301)]:
            pair = service_with(sure, full)
            pair[0].ask_lease(500)
            pair[0].receive(4, ("give_lease", 2, 500), NOW)
            pair[0].receive(5, ("give_lease", 2, 500), NOW)
            for look in looks:
                pair[1].handle(SENDER, ("look", 0, "z", look), NOW)
            self.check(pair, self.letter(), log=[("prepare", 5, time, 0, (), (("b", 50),))])

    def test_a_letter_that_comes_twice(self):
        pair = service_with()
        self.check(pair, self.letter(), log=[("prepare", 5, 21, 0, (), (("b", 50),))])
        self.check(pair, self.letter())
        make_sure(pair[0])
        self.check(pair, self.letter(), answer=("prepared", 5, 1, 21))


class CommitTest(LetterTest):

    def test_an_outcome_in_the_sure_state(self):
        for word in ("decide", "done"):
            for time, low, told in [(40, 41, True), (40, 40, False), (40, 39, False), (40, 100, True), (40, 1, False)]:
                pair = service_with([prepare(5, 30), (word, 5, time)])
                answer = ("outcome", 5, 40) if told else None
                self.check(pair, ("commit", 5, ((1, 30),)), answer=answer, span=Span(low, low + 10))
            for low in (0, 100):
                pair = service_with([prepare(5, 30), (word, 5, 0)])
                self.check(pair, ("commit", 5, ((1, 30),)), answer=("outcome", 5, 0), span=Span(low, low + 10))

    def test_an_outcome_in_the_full_state_alone(self):
        for time in (0, 40):
            self.check(service_with([prepare(5, 30)], [("decide", 5, time)]), ("commit", 5, ((1, 30),)))
            self.check(service_with([], [prepare(5, 30), ("decide", 5, time)]), ("commit", 5, ((1, 30),)))

    def test_it_is_not_held_in_the_sure_state(self):
        self.check(service_with(), ("commit", 5, ((1, 30),)))
        self.check(service_with([], [prepare(5, 30)]), ("commit", 5, ((1, 30),)))

    def test_the_commit_time(self):
        for times, high, time in [(((1, 30),), 29, 30), (((1, 30),), 30, 30), (((1, 30),), 31, 31), ((), 20, 30),
                                  (((0, 99), (1, 30), (2, 70)), 50, 99), (((0, 9), (1, 30)), 20, 30), (((1, 30), (2, 31)), 99, 99),
                                  (((0, FAR), (1, 30)), 50, FAR)]:
            self.check(service_with([prepare(5, 30)]), ("commit", 5, times), log=[("decide", 5, time)], span=Span(high - 10, high))

    def test_a_commit_that_comes_twice(self):
        pair = service_with([prepare(5, 30, "", "b")])
        self.check(pair, ("commit", 5, ((1, 30),)), log=[("decide", 5, 110)])
        self.check(pair, ("commit", 5, ((1, 30),)), span=Span(500, 510))
        make_sure(pair[0])
        self.check(pair, ("commit", 5, ((1, 30),)), span=Span(110, 120))
        self.check(pair, ("commit", 5, ((1, 30),)), answer=("outcome", 5, 110), span=Span(111, 121))
        self.assertEqual(pair[1].sure_state().cells.versions("b"), [(110, 50)])


class QueryTest(LetterTest):

    def test_an_outcome_in_the_sure_state(self):
        for records, outcome in [([prepare(5, 30), ("decide", 5, 40)], 40), ([prepare(5, 30), ("done", 5, 0)], 0),
                                 ([("decide", 5, 0)], 0), ([prepare(5, 30), ("done", 5, 900)], 900)]:
            for low in (0, 40, 100):
                self.check(service_with(records), ("query", 5), answer=("told", 5, outcome), span=Span(low, low + 10))

    def test_an_outcome_in_the_full_state_alone(self):
        for time in (0, 40):
            self.check(service_with([prepare(5, 30)], [("decide", 5, time)]), ("query", 5))
        self.check(service_with([], [("decide", 5, 0)]), ("query", 5))

    def test_no_outcome(self):
        for sure, full in [([], []), ([prepare(5, 30)], []), ([], [prepare(5, 30)]), ([("decide", 4, 0)], [])]:
            pair = service_with(sure, full)
            self.check(pair, ("query", 5), log=[("decide", 5, 0)])
            self.check(pair, ("query", 5))


class ToldTest(LetterTest):

    def test_held_in_both(self):
        for time in (0, 30, 40, FAR):
            pair = service_with([prepare(5, 30, "", "b", 0)])
            self.check(pair, ("told", 5, time), log=[("done", 5, time)])
            self.check(pair, ("told", 5, time))
            self.assertEqual(pair[1].full_state().outcome(5), time)

    def test_not_held_in_both(self):
        for sure, full in HELD[:2] + [([], []), ([prepare(5, 30), ("done", 5, 40)], []), ([("decide", 5, 0)], [])]:
            for time in (0, 40):
                self.check(service_with(sure, full), ("told", 5, time))


class LookTest(LetterTest):

    def leased(self, sure=(), full=(), until=500):
        """Return a ready leader whose lease ends at a time."""
        replica, service = service_with(sure, full)
        replica.ask_lease(until)
        for other in (4, 5):
            replica.receive(other, ("give_lease", 2, until), NOW)
        return replica, service

    def test_the_lease(self):
        for time, possible in [(499, True), (500, True), (501, False), (FAR, False), (1, True)]:
            wanted = {"answer": ("seen", 7, "a", None), "promised": time}
            self.check(self.leased(), ("look", 7, "a", time), **(wanted if possible else {}))
        self.check(service_with(), ("look", 7, "a", 1))

    def test_keys_that_are_blocked(self):
        for sure, full in HELD:
            for key, time, blocked in [("b", 29, False), ("b", 30, True), ("b", 31, True), ("b", 500, True), ("a", 31, False),
                                       ("z", 31, False)]:
                wanted = {"answer": ("seen", 7, key, None), "promised": time}
                self.check(self.leased(sure, full), ("look", 7, key, time), **({} if blocked else wanted))

    def test_the_promised_time(self):
        pair = self.leased()
        for time, change in [(80, 80), (80, None), (50, None), (81, 81), (0, None), (300, 300)]:
            wanted = {} if change is None else {"promised": change}
            self.check(pair, ("look", 7, "a", time), answer=("seen", 7, "a", None), **wanted)

    def test_values(self):
        records = [("prepare", 1, 30, 1, (), (("a", 7), ("b", 8))), ("decide", 1, 40), ("prepare", 2, 50, 1, (), (("b", None),)),
                   ("decide", 2, 60)]
        for key, time, value in [("a", 39, None), ("a", 40, 7), ("a", 500, 7), ("b", 59, 8), ("b", 60, None), ("c", 60, None)]:
            self.check(self.leased(records), ("look", 7, key, time), answer=("seen", 7, key, value), promised=time)

    def test_a_value_comes_from_the_sure_state(self):
        records = [("prepare", 1, 30, 1, (), (("a", 7),)), ("decide", 1, 40), ("prepare", 2, 50, 1, (), (("a", 9),))]
        pair = self.leased(records, [("decide", 2, 60)])
        self.check(pair, ("look", 7, "a", 49), answer=("seen", 7, "a", 7), promised=49)
        self.check(pair, ("look", 7, "a", 60))
        make_sure(pair[0])
        self.check(pair, ("look", 7, "a", 60), answer=("seen", 7, "a", 9), promised=60)

    def test_locks_do_not_hinder(self):
        pair = self.leased()
        give_write_lock(pair[1], "a", 5)
        self.check(pair, ("look", 7, "a", 100), answer=("seen", 7, "a", None), promised=100)


class UnreadyLeaderTest(LetterTest):

    def test_it_answers_as_soon_as_it_is_ready(self):
        replica = leader_with(2, base=3, span=BEGIN)
        pair = replica, Service(replica)
        self.check(pair, ("read", 5, "a", 0))
        make_sure(replica)
        replica.flush(NOW)
        self.check(pair, ("read", 5, "a", 0), answer=("value", 5, "a", None, 2), locks=[("a", 5, False)])


if __name__ == "__main__":
    unittest.main()
