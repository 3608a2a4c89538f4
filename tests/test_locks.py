"""Point 40: locks."""

import unittest

from meridian.deals.locks import LockTable
from meridian.errors import Refused
from tests.helpers import dice, error_of

FAR = 10 ** 40


def table_with(*locks):
    table = LockTable()
    for key, txn, write in locks:
        table.take(key, txn, write=write)
    return table


def plain_decision(locks, key, txn, write):
    """Decide a request as the point says, by a list of locks."""
    others = sorted(owner for name, owner, is_write in locks if name == key and owner != txn and (write or is_write))
    if not others:
        return ("grant", ())
    if any(other < txn for other in others):
        return ("wait", ())
    return ("wound", tuple(others))


class DecisionTest(unittest.TestCase):

    def test_an_empty_table(self):
        table = LockTable()
        self.assertEqual((table.locks(), len(table), table.holds("a", 1), table.free(1)), ([], 0, False, 0))
        self.assertEqual(table.decide("a", 5), ("grant", ()))
        self.assertEqual(table.decide("a", 5, write=True), ("grant", ()))

    def test_example(self):
        table = table_with(("a", 2, False))
        self.assertEqual(table.decide("a", 3), ("grant", ()))
        self.assertEqual(table.decide("a", 3, write=True), ("wait", ()))
        self.assertEqual(table.decide("a", 1, write=True), ("wound", (2,)))

    def test_one_other_lock(self):
        for write in (False, True):
            table = table_with(("a", 5, write))
            for txn, read_decision, write_decision in [(4, ("wound", (5,)), ("wound", (5,))), (6, ("wait", ()), ("wait", ())),
                                                       (5, ("grant", ()), ("grant", ())), (FAR, ("wait", ()), ("wait", ()))]:
                self.assertEqual(table.decide("a", txn), read_decision if write else ("grant", ()))
                self.assertEqual(table.decide("a", txn, write=True), write_decision)
            self.assertEqual(table.decide("b", 9, write=True), ("grant", ()))

    def test_several_read_locks(self):
        table = table_with(("a", 7, False), ("a", 3, False), ("a", 5, False))
        for txn, decision in [(1, ("wound", (3, 5, 7))), (2, ("wound", (3, 5, 7))), (4, ("wait", ())), (8, ("wait", ())),
                              (3, ("wound", (5, 7))), (5, ("wait", ())), (7, ("wait", ()))]:
            self.assertEqual(table.decide("a", txn), ("grant", ()))
            self.assertEqual(table.decide("a", txn, write=True), decision)

    def test_a_decision_changes_nothing(self):
        table = table_with(("a", 7, False), ("b", 3, True))
        for txn in (1, 3, 7, 9):
            for write in (False, True):
                table.decide("a", txn, write=write)
                table.decide("b", txn, write=write)
        self.assertEqual(table.locks(), [("a", 7, False), ("b", 3, True)])


class TakeTest(unittest.TestCase):

    def test_a_lock_that_the_transaction_already_has(self):
        for first, second, after in [(False, False, False), (False, True, True), (True, False, True), (True, True, True)]:
            table = table_with(("a", 5, first))
            self.assertIsNone(table.take("a", 5, write=second))
            self.assertEqual((table.locks(), len(table)), ([("a", 5, after)], 1))

    def test_a_lock_for_writing_beside_other_readers(self):
        table = table_with(("a", 5, False), ("a", 6, False))
        for txn in (5, 6):
            self.assertIs(error_of(table.take, "a", txn, write=True), Refused)
            self.assertIsNone(table.take("a", txn))
        self.assertEqual(table.locks(), [("a", 5, False), ("a", 6, False)])
        table.free(6)
        table.take("a", 5, write=True)
        self.assertEqual(table.locks(), [("a", 5, True)])

    def test_a_take_without_a_grant(self):
        for locks, key, txn, write in [([("a", 5, True)], "a", 4, False), ([("a", 5, True)], "a", 6, True),
                                       ([("a", 5, False)], "a", 6, True), ([("a", 5, False)], "a", 4, True),
                                       ([("a", 5, False), ("a", 7, False)], "a", 6, True)]:
            table = table_with(*locks)
            self.assertIs(error_of(table.take, key, txn, write=write), Refused)
            self.assertEqual(table.locks(), locks)

    def test_free_holds_locks_and_len(self):
        table = table_with(("b", 5, False), ("a", 12, False), ("a", 5, False), ("c", 5, True), ("aa", 12, True))
        locks = [("a", 5, False), ("a", 12, False), ("aa", 12, True), ("b", 5, False), ("c", 5, True)]
        self.assertEqual((table.locks(), len(table)), (locks, 5))
        for key in ("a", "aa", "b", "c", "d"):
            for txn in (1, 5, 12):
                self.assertIs(table.holds(key, txn), (key, txn) in [lock[:2] for lock in locks])
        table.locks().append(1)
        self.assertEqual(table.free(7), 0)
        self.assertEqual(table.free(5), 3)
        self.assertEqual((table.locks(), len(table)), ([("a", 12, False), ("aa", 12, True)], 2))
        self.assertEqual((table.free(5), table.free(12), table.locks()), (0, 2, []))

    def test_long_runs(self):
        source = dice(40)
        seen = {"grant": 0, "wait": 0, "wound": 0}
        for _ in range(25):
            table, locks = LockTable(), {}
            for _ in range(200):
                key, txn, write = source.choice("abcd"), source.randrange(1, 9), source.choice([True, False])
                if source.random() < 0.2:
                    self.assertEqual(table.free(txn), sum(owner == txn for _, owner in locks))
                    locks = {pair: mode for pair, mode in locks.items() if pair[1] != txn}
                self.request(table, locks, seen, key, txn, write)
                self.check(table, locks)
        self.assertTrue(min(seen.values()) > 200, seen)

    def request(self, table, locks, seen, key, txn, write):
        rows = [(name, owner, mode) for (name, owner), mode in locks.items()]
        decision = plain_decision(rows, key, txn, write)
        self.assertEqual(table.decide(key, txn, write=write), decision)
        seen[decision[0]] += 1
        self.assertIs(error_of(table.take, key, txn, write=write), None if decision[0] == "grant" else Refused)
        if decision[0] == "grant":
            locks[key, txn] = write or locks.get((key, txn), False)

    def check(self, table, locks):
        found = table.locks()
        self.assertEqual(found, sorted((key, txn, write) for (key, txn), write in locks.items()))
        self.assertEqual(len(table), len(locks))
        for key, txn, write in found:
            for other, owner, is_write in found:
                self.assertFalse(key == other and txn != owner and (write or is_write))


if __name__ == "__main__":
    unittest.main()
