"""Points 17, 18 and 19: journals."""

import unittest

from meridian.errors import BadArgument, Refused
from meridian.storage.frames import encode_frame
from meridian.storage.journals import Journal
from meridian.storage.notes import encode_note
from tests.helpers import NEW_STATE, dice, error_of, plain_change, some_note

FAR = 10 ** 59 + 3
X, Y, Z = ("floor", 1), ("decide", 2, 0), ("prepare", 1, 5, 0, ("a",), (("b", -1),))


def change(journal, note):
    """Make the change of a journal that a note says."""
    if note[0] == "ballot":
        return journal.set_ballot(note[1], note[2])
    if note[0] == "promise":
        return journal.make_promise(note[1])
    return journal.put_entry(note[1], note[2], note[3])


def state_of(journal):
    return journal.term, journal.vote, journal.promise, journal.entries()


def safe_of(journal):
    return journal.safe_ballot, journal.safe_promise, journal.safe_length


def all_of(journal):
    return state_of(journal), safe_of(journal), journal.loose_size, journal.notes()


def frame_of(note):
    return encode_frame(encode_note(note))


def example():
    """Return a journal with the term 2 and two entries, all of it synced."""
    journal = Journal()
    journal.set_ballot(2, -1)
    journal.put_entry(0, 1, X)
    journal.put_entry(1, 2, Y)
    journal.sync()
    return journal


class Model:
    """A journal as the points 17 to 19 describe it."""

    def __init__(self):
        self.kept = []
        self.loose = []
        self.safe = ((0, -1), 0, 0)

    def state(self):
        state = NEW_STATE
        for note in self.kept + self.loose:
            state = plain_change(state, note)
        return state

    def make_safe(self):
        self.kept, self.loose = self.kept + self.loose, []
        term, vote, promise, entries = self.state()
        self.safe = ((term, vote), promise, len(entries))

    def change(self, note):
        """Write a note; return whether it was taken."""
        before = self.state()
        after = plain_change(before, note)
        if after is None:
            return False
        if note[0] == "entry":
            self.safe = self.safe[:2] + (min(self.safe[2], note[1]),)
        if note[0] == "entry" or after != before:
            self.loose.append(note)
        return True

    def bytes(self):
        return sum([frame_of(note) for note in self.loose], [])

    def crash(self, keep, torn):
        """Keep the notes whose frames are whole among the first bytes."""
        first = []
        end = 0
        for note in self.loose:
            end += len(frame_of(note))
            if end > keep or (torn and end == keep):
                break
            first.append(note)
        self.loose = first
        self.make_safe()


class NewJournalTest(unittest.TestCase):

    def test_a_new_journal(self):
        journal = Journal()
        self.assertEqual(state_of(journal), (0, -1, 0, []))
        self.assertEqual(safe_of(journal), ((0, -1), 0, 0))
        self.assertEqual((len(journal), journal.last_term, journal.loose_size, journal.notes()), (0, 0, 0, []))

    def test_crash_and_sync_of_a_new_journal(self):
        journal = Journal()
        self.assertIsNone(journal.sync())
        self.assertIsNone(journal.crash())
        self.assertEqual(all_of(journal), all_of(Journal()))
        for keep in (-1, 1, FAR):
            self.assertIs(error_of(journal.crash, keep=keep), BadArgument)


class ChangesTest(unittest.TestCase):

    def check_refused(self, journal, error, notes):
        for note in notes:
            before = all_of(journal)
            self.assertIs(error_of(change, journal, note), error, note)
            self.assertEqual(all_of(journal), before)

    def test_ballots(self):
        journal = Journal()
        written = []
        for term, vote in [(0, -1), (0, 2), (0, 2), (1, -1), (1, -1), (1, 0), (1, 0), (5, -1), (6, 0), (6, 0), (7, 1)]:
            if (journal.term, journal.vote) != (term, vote):
                written.append(("ballot", term, vote))
            self.assertIsNone(journal.set_ballot(term, vote))
            self.assertEqual(state_of(journal), (term, vote, 0, []))
            self.assertEqual(journal.notes(), written)
            self.assertEqual(journal.loose_size, sum(len(frame_of(note)) for note in written))
        self.check_refused(journal, Refused, [("ballot", 6, 0), ("ballot", 0, -1), ("ballot", 7, 0), ("ballot", 7, 2),
                                              ("ballot", 7, -1), ("ballot", 6, 1)])
        journal.set_ballot(8, -1)
        self.check_refused(journal, Refused, [("ballot", 7, 1), ("ballot", 7, -1)])

    def test_promises(self):
        journal = Journal()
        for until, promise, many in [(0, 0, 0), (4, 4, 1), (4, 4, 1), (3, 4, 1), (0, 4, 1), (5, 5, 2), (FAR, FAR, 3)]:
            self.assertIsNone(journal.make_promise(until))
            self.assertEqual(state_of(journal), (0, -1, promise, []))
            self.assertEqual(len(journal.notes()), many)
        self.assertEqual(journal.notes(), [("promise", 4), ("promise", 5), ("promise", FAR)])

    def test_entries(self):
        journal = Journal()
        journal.set_ballot(3, 1)
        for index, term, record, log in [(0, 1, X, [(1, X)]), (1, 1, Y, [(1, X), (1, Y)]),
                                         (2, 3, Z, [(1, X), (1, Y), (3, Z)]), (2, 1, Z, [(1, X), (1, Y), (1, Z)]),
                                         (1, 3, Y, [(1, X), (3, Y)]), (1, 3, Y, [(1, X), (3, Y)]), (0, 2, X, [(2, X)])]:
            many = len(journal.notes())
            self.assertIsNone(journal.put_entry(index, term, record))
            self.assertEqual(state_of(journal), (3, 1, 0, log))
            self.assertEqual((len(journal), journal.last_term), (len(log), term))
            self.assertEqual([journal.entry(at) for at in range(len(log))], log)
            self.assertEqual(journal.notes()[many:], [("entry", index, term, record)])
        self.assertEqual(journal.loose_size, sum(len(frame_of(note)) for note in journal.notes()))

    def test_entries_that_are_refused(self):
        journal = Journal()
        self.check_refused(journal, Refused, [("entry", 0, 1, X), ("entry", 1, 1, X)])
        journal = example()
        self.check_refused(journal, Refused, [("entry", 3, 2, Z), ("entry", FAR, 2, Z), ("entry", 2, 1, Z),
                                              ("entry", 2, 3, Z), ("entry", 1, 3, Z), ("entry", 0, 3, Z)])

    def test_arguments_out_of_their_range(self):
        for journal in (Journal(), example()):
            self.check_refused(journal, BadArgument, [
                ("ballot", -1, 0), ("ballot", -1, -1), ("ballot", 0, -2), ("ballot", 5, -2), ("ballot", FAR, -FAR),
                ("promise", -1), ("promise", -FAR), ("entry", -1, 1, X), ("entry", -2, 2, X), ("entry", 0, 0, X),
                ("entry", 1, -1, X), ("entry", 0, 1, ("floor", 0)), ("entry", 0, 1, ("decide", 0, 0)),
                ("entry", 0, 1, ("prepare", 1, 1, 0, ("b", "a"), ())), ("entry", 0, 1, ("done", 1, -1)),
                ("entry", 0, 1, ("prepare", 1, 1, 0, (), (("A", 1),)))])

    def test_a_bad_argument_is_found_before_a_refusal(self):
        journal = Journal()
        journal.set_ballot(5, 1)
        self.check_refused(journal, BadArgument, [("ballot", 4, -2), ("ballot", 5, -2), ("entry", 9, 0, X),
                                                  ("entry", 9, 9, ("floor", 0)), ("entry", 0, 6, ("floor", -1)),
                                                  ("entry", -1, 9, X)])

    def test_entry_at_an_index(self):
        journal = example()
        self.assertEqual((journal.entry(0), journal.entry(1)), ((1, X), (2, Y)))
        for index in (-1, -2, 2, 3, FAR):
            self.assertIs(error_of(journal.entry, index), BadArgument)
            self.assertIs(error_of(Journal().entry, index), BadArgument)
        self.assertIs(error_of(Journal().entry, 0), BadArgument)

    def test_lists_that_are_returned_are_new(self):
        journal = example()
        journal.entries().append(1)
        journal.notes().append(1)
        self.assertEqual(journal.entries(), [(1, X), (2, Y)])
        self.assertEqual(journal.notes(), [("ballot", 2, -1), ("entry", 0, 1, X), ("entry", 1, 2, Y)])


class SafetyTest(unittest.TestCase):

    def test_example(self):
        journal = example()
        self.assertEqual(safe_of(journal), ((2, -1), 0, 2))
        journal.put_entry(1, 2, Z)
        self.assertEqual(journal.entries(), [(1, X), (2, Z)])
        self.assertEqual(safe_of(journal), ((2, -1), 0, 1))
        journal.put_entry(2, 2, Y)
        self.assertEqual(safe_of(journal), ((2, -1), 0, 1))
        journal.put_entry(0, 2, Y)
        self.assertEqual(safe_of(journal), ((2, -1), 0, 0))
        journal.sync()
        self.assertEqual(safe_of(journal), ((2, -1), 0, 1))

    def test_only_a_sync_or_a_crash_makes_changes_safe(self):
        journal = Journal()
        journal.set_ballot(1, 2)
        journal.make_promise(7)
        journal.put_entry(0, 1, X)
        self.assertEqual(safe_of(journal), ((0, -1), 0, 0))
        self.assertIsNone(journal.sync())
        self.assertEqual(safe_of(journal), ((1, 2), 7, 1))
        self.assertEqual(journal.loose_size, 0)
        journal.set_ballot(2, 0)
        journal.make_promise(9)
        journal.put_entry(1, 2, Y)
        self.assertEqual(safe_of(journal), ((1, 2), 7, 1))
        self.assertIsNone(journal.crash(keep=journal.loose_size))
        self.assertEqual(state_of(journal), (2, 0, 9, [(1, X), (2, Y)]))
        self.assertEqual(safe_of(journal), ((2, 0), 9, 2))
        journal.make_promise(11)
        journal.crash()
        self.assertEqual((state_of(journal)[:3], safe_of(journal)), ((2, 0, 9), ((2, 0), 9, 2)))

    def test_crashes_that_are_out_of_range(self):
        journal = example()
        journal.make_promise(5)
        before = all_of(journal)
        for keep in (-1, journal.loose_size + 1, FAR):
            for last in (None, 0, 256):
                self.assertIs(error_of(journal.crash, keep=keep, last=last), BadArgument)
        for last in (-1, 256, FAR):
            for keep in (0, 1, journal.loose_size):
                self.assertIs(error_of(journal.crash, keep=keep, last=last), BadArgument)
        self.assertEqual(all_of(journal), before)

    def test_every_count_of_bytes_that_a_crash_keeps(self):
        notes = [("ballot", 3, 0), ("promise", 4), ("entry", 1, 3, Z), ("entry", 2, 3, X), ("ballot", 4, 1),
                 ("entry", 0, 4, Y), ("promise", 300)]
        size = sum(len(frame_of(note)) for note in notes)
        for keep in range(size + 1):
            for add in (None, 0, 1, 128, 255):
                journal, model = example(), Model()
                for note in [("ballot", 2, -1), ("entry", 0, 1, X), ("entry", 1, 2, Y)]:
                    model.change(note)
                model.make_safe()
                for note in notes:
                    change(journal, note)
                    model.change(note)
                self.assertEqual(journal.loose_size, size)
                self.crash(journal, model, keep, add)
                self.check(journal, model)

    def crash(self, journal, model, keep, add):
        """Crash both; the last byte becomes greater by a number, or stays untouched if it is None."""
        old = model.bytes()[keep - 1] if keep > 0 else 0
        last = None if add is None else (old + add) % 256
        self.assertIsNone(journal.crash(keep=keep, last=last))
        model.crash(keep, keep > 0 and last is not None and last != old)

    def check(self, journal, model):
        state = model.state()
        self.assertEqual(state_of(journal), state)
        self.assertEqual(len(journal), len(state[3]))
        self.assertEqual(journal.last_term, state[3][-1][0] if state[3] else 0)
        self.assertEqual(safe_of(journal), model.safe)
        self.assertEqual(journal.loose_size, len(model.bytes()))
        self.assertEqual(journal.notes(), model.kept + model.loose)

    def test_actions_in_any_order(self):
        source = dice(18)
        seen = {True: 0, False: 0}
        for _ in range(80):
            journal, model = Journal(), Model()
            for _ in range(40):
                action = source.randrange(10)
                if action == 0:
                    journal.sync()
                    model.make_safe()
                elif action == 1:
                    self.crash_somewhere(source, journal, model)
                else:
                    note = some_note(source)
                    taken = model.change(note)
                    self.assertIs(error_of(change, journal, note), None if taken else Refused)
                    seen[taken] += 1
                self.check(journal, model)
        self.assertTrue(min(seen.values()) > 300)

    def crash_somewhere(self, source, journal, model):
        (term, vote), promise, length = safe_of(journal)
        first = journal.entries()[:length]
        keep = source.randrange(len(model.bytes()) + 1)
        self.crash(journal, model, keep, source.choice([None, 0, source.randrange(1, 256)]))
        self.assertEqual(journal.entries()[:length], first)
        self.assertTrue(journal.term >= term and journal.promise >= promise)
        if journal.term == term and vote != -1:
            self.assertEqual(journal.vote, vote)

    def test_journals_are_independent(self):
        first, second = Journal(), Journal()
        first.set_ballot(3, 1)
        first.put_entry(0, 2, X)
        self.assertEqual(all_of(second), all_of(Journal()))


if __name__ == "__main__":
    unittest.main()
