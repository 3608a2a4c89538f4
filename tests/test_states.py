"""Points 36 and 37: the state of a group."""

import unittest

from meridian.ledger.cells import Cells
from meridian.ledger.keepers import StateKeeper
from meridian.ledger.states import State, state_of
from tests.helpers import dice, error_of

KEYS = ["a", "b", "c", "d"]
FAR = 10 ** 40


def prepare(txn, time, reads="", writes="", lead=0):
    """Return a prepare record that reads and writes keys of one character each."""
    return ("prepare", txn, time, lead, tuple(reads), tuple((key, txn * 100 + time) for key in writes))


class Model:
    """A state as point 36 describes it."""

    def __init__(self):
        self.floor = 0
        self.held = {}
        self.outcomes = {}
        self.versions = {}

    def conflicts(self, reads, writes):
        found = []
        for txn, (_, _, held_reads, held_writes) in sorted(self.held.items()):
            writes_one = any(key in reads or key in [name for name, _ in writes] for key, _ in held_writes)
            reads_one = any(key in [name for name, _ in writes] for key in held_reads)
            if writes_one or reads_one:
                found.append(txn)
        return found

    def settled(self):
        return min([self.floor] + [item[0] - 1 for item in self.held.values()])

    def apply(self, record):
        if record[0] == "floor":
            if record[1] > self.floor:
                self.floor = record[1]
                return True
            return False
        txn = record[1]
        if record[0] == "prepare":
            if (txn in self.held or txn in self.outcomes or record[2] <= self.floor
                    or self.conflicts(record[4], record[5])):
                return False
            self.held[txn] = record[2:]
            self.floor = record[2]
            return True
        time = record[2]
        if txn in self.outcomes:
            return False
        if time == 0:
            self.held.pop(txn, None)
        else:
            if txn not in self.held or self.held[txn][0] > time:
                return False
            for key, value in self.held.pop(txn)[3]:
                self.versions.setdefault(key, []).append((time, value))
            self.floor = max(self.floor, time)
        self.outcomes[txn] = time
        return True

    def view(self):
        return {"floor": self.floor, "settled": self.settled(), "held": dict(self.held), "outcomes": dict(self.outcomes),
                "versions": {key: self.versions.get(key, []) for key in KEYS}}


def view(state):
    return {"floor": state.floor, "settled": state.settled, "held": {txn: state.held(txn) for txn in state.all_held()},
            "outcomes": dict(state.all_outcomes()), "versions": {key: state.cells.versions(key) for key in KEYS}}


def some_records(source, many):
    """Return records about a few transactions, about half of which are applicable."""
    records = []
    time = 0
    for _ in range(many):
        time += source.randrange(3)
        word = source.choice(["floor", "prepare", "prepare", "prepare", "decide", "done"])
        txn = source.randrange(1, 3 + many // 4)
        moment = max(1, time + source.randrange(-3, 4))
        if word == "floor":
            records.append(("floor", moment))
        elif word == "prepare":
            keys = [sorted(source.sample(KEYS, source.randrange(3))) for _ in range(2)]
            writes = tuple((key, source.choice([None, 0, txn, -moment])) for key in keys[1])
            records.append(("prepare", txn, moment, source.randrange(3), tuple(keys[0]), writes))
        else:
            records.append((word, txn, source.choice([0, moment, moment + 3])))
    return records


class RecordsTest(unittest.TestCase):

    def check(self, records, answers, **wanted):
        """Apply records one by one; check the answers and some parts of the view at the end."""
        state = State()
        for record, answer in zip(records, answers, strict=True):
            before = view(state)
            self.assertIs(state.apply(record), answer, record)
            if not answer:
                self.assertEqual(view(state), before)
        found = view(state)
        for name, value in wanted.items():
            self.assertEqual(found[name], value, name)
        return state

    def test_a_new_state(self):
        state = State()
        self.assertIsInstance(state.cells, Cells)
        self.assertEqual((state.floor, state.settled, len(state.cells)), (0, 0, 0))
        self.assertEqual((state.all_held(), state.all_outcomes()), ([], []))
        self.assertEqual((state.held(1), state.outcome(1)), (None, None))
        self.assertEqual((state.conflicts(("a",), (("a", 1),)), state.blockers("a", FAR)), ([], []))

    def test_floor_records(self):
        self.check([("floor", 5), ("floor", 5), ("floor", 4), ("floor", 1), ("floor", 6), ("floor", FAR)],
                   [True, False, False, False, True, True], floor=FAR, settled=FAR)

    def test_prepare_records(self):
        self.check([("floor", 5), prepare(1, 5), prepare(1, 4), prepare(1, 6, "a", "b", 2), prepare(1, 9), prepare(1, 6)],
                   [True, False, False, True, False, False], floor=6, settled=5,
                   held={1: (6, 2, ("a",), (("b", 106),))}, outcomes={})

    def test_prepare_records_of_transactions_with_an_outcome(self):
        for outcome in [("decide", 1, 0), ("done", 1, 0), ("decide", 1, 7), ("done", 1, 7)]:
            self.check([prepare(1, 5), outcome, prepare(1, 20)], [True, True, False], held={})
        self.check([("decide", 1, 0), prepare(1, 20)], [True, False], held={}, floor=0)

    def test_prepare_records_that_conflict(self):
        for reads, writes, possible in [("", "", True), ("a", "", True), ("", "a", False), ("b", "", False),
                                        ("", "b", False), ("c", "d", True), ("ac", "", True), ("cd", "cd", True),
                                        ("a", "b", False), ("cb", "", False), ("c", "ab", False)]:
            self.check([prepare(1, 5, "a", "b"), prepare(2, 6, sorted(reads), sorted(writes))], [True, possible],
                       floor=6 if possible else 5)
            self.check([prepare(1, 5, "a", "b"), ("decide", 1, 5), prepare(2, 6, sorted(reads), sorted(writes))],
                       [True, True, True])

    def test_commits(self):
        for word in ("decide", "done"):
            writes = (("a", 1), ("b", None), ("c", -4))
            for time, possible in [(4, False), (5, True), (6, True), (9, True), (FAR, True), (1, False)]:
                state = self.check([("prepare", 1, 5, 0, ("d",), writes), (word, 1, time)], [True, possible],
                                   floor=max(5, time) if possible else 5, held={} if possible else {
                                       1: (5, 0, ("d",), writes)})
                self.assertEqual(state.cells.changes(0, FAR), [(time, key, value) for key, value in writes] if possible else [])
                self.assertEqual(state.outcome(1), time if possible else None)

    def test_a_commit_below_the_floor(self):
        self.check([prepare(1, 5, "", "a"), ("floor", 20), ("decide", 1, 7)], [True, True, True], floor=20, settled=20,
                   versions={"a": [(7, 105)], "b": [], "c": [], "d": []})

    def test_aborts(self):
        for word in ("decide", "done"):
            state = self.check([prepare(1, 5, "a", "b"), (word, 1, 0), (word, 1, 0), (word, 1, 6)],
                               [True, True, False, False], floor=5, settled=5, held={}, outcomes={1: 0})
            self.assertEqual(len(state.cells), 0)

    def test_outcomes_of_transactions_that_are_not_held(self):
        for word in ("decide", "done"):
            self.check([(word, 1, 5), (word, 2, 0), (word, 2, 0), (word, 2, 7)], [False, True, False, False], floor=0,
                       outcomes={2: 0})

    def test_an_outcome_does_not_change(self):
        for first in ("decide", "done"):
            for second in ("decide", "done"):
                for time in (0, 6, 7, 8):
                    self.check([prepare(1, 5, "", "a"), (first, 1, 7), (second, 1, time)], [True, True, False],
                               outcomes={1: 7}, floor=7)

    def test_example(self):
        records = [("prepare", 1, 5, 0, (), (("a", 1),)), ("decide", 1, 9), ("decide", 1, 9)]
        state = self.check(records, [True, True, False], floor=9)
        self.assertEqual((state.cells.value_at("a", 8), state.cells.value_at("a", 9), state.cells.value_at("a", 99)),
                         (None, 1, 1))
        state = self.check(records[:1], [True], settled=4)
        self.assertEqual(state.blockers("a", 7), [1])

    def test_settled(self):
        state = self.check([("floor", 3), prepare(1, 5, "", "a"), prepare(2, 9, "", "b"), ("floor", 12)], [True] * 4,
                           settled=4)
        for record, settled in [(("decide", 1, 6), 8), (("decide", 2, 0), 12), (prepare(3, 13), 12), (("floor", 15), 12),
                                (("decide", 3, 20), 20)]:
            state.apply(record)
            self.assertEqual(state.settled, settled)

    def test_any_records_against_a_model(self):
        source = dice(36)
        counts = {True: 0, False: 0}
        for _ in range(250):
            state, model = State(), Model()
            records = some_records(source, 40)
            for record in records:
                answer = model.apply(record)
                self.assertIs(state.apply(record), answer)
                self.assertEqual(view(state), model.view())
                counts[answer] += 1
                for txn in range(1, 14):
                    self.assertEqual((state.held(txn), state.outcome(txn)), (model.held.get(txn), model.outcomes.get(txn)))
            before = list(records)
            self.assertEqual(view(state_of(records)), model.view())
            self.assertEqual(records, before)
        self.assertTrue(min(counts.values()) > 2000)

    def test_every_record_twice(self):
        source = dice(361)
        for _ in range(80):
            records = some_records(source, 40)
            state = State()
            for record in records:
                state.apply(record)
                self.assertIs(state.apply(record), False)
            self.assertEqual(view(state), view(state_of(records)))


class ConflictsTest(unittest.TestCase):

    def test_conflicts_and_blockers_against_the_words(self):
        source = dice(362)
        most = 0
        for _ in range(150):
            state, model = State(), Model()
            for record in some_records(source, 30):
                state.apply(record)
                model.apply(record)
                reads = tuple(sorted(source.sample(KEYS, source.randrange(4))))
                writes = tuple((key, 1) for key in sorted(source.sample(KEYS, source.randrange(4))))
                self.assertEqual(state.conflicts(reads, writes), model.conflicts(reads, writes))
                most = max(most, len(model.conflicts(reads, writes)))
                for time in {0, 1, model.floor} | {item[0] + add for item in model.held.values() for add in (-1, 0, 1)}:
                    for key in KEYS:
                        wanted = [txn for txn, item in sorted(model.held.items())
                                  if item[0] <= time and key in [name for name, _ in item[3]]]
                        self.assertEqual(state.blockers(key, time), wanted)
        self.assertTrue(most > 1)

    def test_several_conflicts_are_ascending(self):
        state = state_of([prepare(9, 5, "", "a"), prepare(3, 6, "", "b"), prepare(7, 7, "c"), prepare(5, 8, "c")])
        self.assertEqual(state.all_held(), [3, 5, 7, 9])
        self.assertEqual(state.conflicts(("a", "b"), (("c", 1),)), [3, 5, 7, 9])
        self.assertEqual(state.conflicts(("a", "b", "c"), ()), [3, 9])
        self.assertEqual(state.conflicts((), (("c", None),)), [5, 7])
        self.assertEqual(state.conflicts((), ()), [])

    def test_blockers_at_the_edges(self):
        state = state_of([prepare(1, 5, "a", "b")])
        for key, time, found in [("b", 4, []), ("b", 5, [1]), ("b", 6, [1]), ("b", FAR, [1]), ("a", 9, []), ("b", -1, [])]:
            self.assertEqual(state.blockers(key, time), found)


class AlwaysTest(unittest.TestCase):

    def test_what_point_37_says(self):
        source = dice(37)
        for _ in range(120):
            state = State()
            earlier = []
            settled = 0
            for record in some_records(source, 40):
                state.apply(record)
                self.assertTrue(state.settled >= settled)
                settled = state.settled
                earlier.append((settled, state.cells.rows_at(settled), state.cells.changes(0, settled)))
                for time, rows, found in earlier:
                    self.assertEqual((state.cells.rows_at(time), state.cells.changes(0, time)), (rows, found))
                self.check_held(state)

    def check_held(self, state):
        for txn in state.all_held():
            time, _, reads, writes = state.held(txn)
            self.assertEqual([other for other in state.conflicts(reads, writes) if other != txn], [])
            self.assertIsNone(state.outcome(txn))
            for key, _ in writes:
                self.assertTrue(time > state.cells.last_time(key))

    def test_lists_may_be_changed(self):
        records = [prepare(1, 5, "a", "b"), ("decide", 2, 0)]
        state = state_of(records)
        before = view(state)
        records.append(("floor", 9))
        state.all_held().append(5)
        state.all_outcomes().append(5)
        state.conflicts(("b",), ()).append(5)
        state.blockers("b", 9).append(5)
        self.assertEqual(view(state), before)
        self.assertEqual((state.all_held(), state.all_outcomes()), ([1], [(2, 0)]))

    def test_twins_change_apart(self):
        state = state_of([prepare(1, 5, "a", "b"), ("decide", 2, 0)])
        before = view(state)
        twin = state.twin()
        self.assertEqual(view(twin), before)
        for record in [("decide", 1, 9), prepare(3, 12, "", "c"), ("floor", 20)]:
            self.assertIs(twin.apply(record), True)
        self.assertEqual(view(state), before)


class KeeperTest(unittest.TestCase):

    def test_logs_that_grow_and_are_cut(self):
        source = dice(371)
        for _ in range(40):
            keeper = StateKeeper()
            entries = []
            kept = []
            for record in some_records(source, 25):
                if source.random() < 0.15:
                    entries = entries[:source.randrange(len(entries) + 1)]
                entries.append((source.randrange(1, 4), record))
                state = keeper.state_after(entries)
                kept.append((state, view(state)))
                self.assertEqual(view(state), view(state_of([record for _, record in entries])))
                self.assertIs(keeper.state_after(list(entries)), state)
                if source.random() < 0.2:
                    short = entries[:source.randrange(len(entries) + 1)]
                    self.assertEqual(view(keeper.state_after(short)), view(state_of([record for _, record in short])))
            for state, before in kept:
                self.assertEqual(view(state), before)

    def test_the_list_that_was_passed_may_be_changed(self):
        keeper = StateKeeper()
        entries = [(1, ("floor", 5))]
        keeper.state_after(entries)
        entries[0] = (1, ("floor", 7))
        self.assertEqual(keeper.state_after(entries).floor, 7)
        self.assertIsNone(error_of(keeper.state_after, []))
        self.assertEqual(keeper.state_after([]).floor, 0)


if __name__ == "__main__":
    unittest.main()
