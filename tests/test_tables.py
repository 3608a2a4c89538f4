"""Point 58: tables."""

import unittest

from meridian.deals.programs import check_program, put_rows, run_alone
from meridian.errors import BadArgument
from meridian.views.tables import Table
from meridian.wire.texts import ALPHABET
from tests.helpers import dice, error_of

MOST = 10 ** 12
GOOD_PRIMARIES = ["a", "z9", ".", "..", "i", ".i", "0", "007", "a.b", "x" * 200]
BAD_PRIMARIES = ["", "/", "a/", "/a", "a/b", "A", "a_b", "a b", "a-b", "\u00e4", "a\n"]
GOOD_NUMBERS = [0, 1, 9, 10, 99, 12345, MOST - 1, MOST]
BAD_NUMBERS = [-1, -MOST, MOST + 1, 10 ** 40]


class KeyTest(unittest.TestCase):

    def test_names(self):
        for name in ["a", "z", "abc", "i", "x" * 100]:
            self.assertIsInstance(Table(name), Table)
        for name in ["", "A", "a1", "1", "a.", ".i", "a/b", "/", "a_b", "a b", " ", "\u00e4", "a\n"]:
            self.assertEqual(error_of(Table, name), BadArgument, name)

    def test_keys(self):
        for name in ("t", "users"):
            table = Table(name)
            for primary in GOOD_PRIMARIES:
                self.assertEqual(table.row_key(primary), name + "/" + primary)
                for number in GOOD_NUMBERS:
                    self.assertEqual(table.entry_key(primary, number), name + ".i/" + str(number) + "/" + primary)
        self.assertEqual(Table("t").entry_key("1", 5), "t.i/5/1")

    def test_all_characters(self):
        for character in ALPHABET:
            if character != "/":
                self.assertEqual(Table("t").row_key(character), "t/" + character)

    def test_bad_arguments(self):
        table = Table("t")
        for primary in BAD_PRIMARIES:
            for call in [(table.row_key, primary), (table.entry_key, primary, 1), (table.insert, primary, 1),
                         (table.update, primary, 1, 2), (table.delete, primary, 1)]:
                self.assertEqual(error_of(*call), BadArgument, call)
        for number in BAD_NUMBERS:
            for call in [(table.entry_key, "a", number), (table.insert, "a", number), (table.update, "a", number, 1),
                         (table.update, "a", 1, number), (table.delete, "a", number)]:
                self.assertEqual(error_of(*call), BadArgument, call)


class ProgramTest(unittest.TestCase):

    def test_programs(self):
        table = Table("t")
        self.assertEqual(table.insert("k", 0), (("equal", "t/k", None), ("put", "t/k", 0), ("put", "t.i/0/k", 1)))
        self.assertEqual(table.update("k", 0, MOST), (
            ("equal", "t/k", 0), ("put", "t/k", MOST), ("drop", "t.i/0/k"), ("put", "t.i/1000000000000/k", 1)))
        self.assertEqual(table.update("k", 7, 7), (
            ("equal", "t/k", 7), ("put", "t/k", 7), ("drop", "t.i/7/k"), ("put", "t.i/7/k", 1)))
        self.assertEqual(table.delete("k", 10), (("equal", "t/k", 10), ("drop", "t/k"), ("drop", "t.i/10/k")))
        for program in (table.insert("k", 0), table.update("k", 0, 1), table.delete("k", 0)):
            self.assertIsNone(check_program(program))

    def test_programs_keep_the_index_in_step(self):
        source = dice(5800)
        table, other = Table("t"), Table("tt")
        rows = {}
        done = {True: 0, False: 0}
        for _ in range(600):
            one = source.choice([table, other])
            primary, old, new = source.choice("ab.0"), source.randrange(3), source.randrange(3)
            program = source.choice([one.insert(primary, new), one.update(primary, old, new), one.delete(primary, old)])
            _, writes, completed = run_alone(rows, program)
            rows = put_rows(rows, writes)
            done[completed] += 1
            pairs = sorted(rows.items())
            for each in (table, other):
                self.assertIs(each.agrees(pairs), True)
                self.assertEqual(each.entries(pairs), sorted((number, primary) for primary, number in each.rows(pairs)))
        self.assertTrue(min(done.values()) > 100)


class ListTest(unittest.TestCase):

    # Keys that are neither rows nor entries of t, whatever their values are.
    STRANGE = ["t", "t/", "t//", "t/a/b", "t/a/", "tt/a", "ta/a", "u/a", "s/t/a", "t.i", "t.i/", "t.i//a", "t.i/5", "t.i/5/", "t.i/5//",
               "t.i/5/a/b", "t.i/05/a", "t.i/00/a", "t.i/007/a", "t.i/x/a", "t.i/5x/a", "t.i/x5/a", "t.i/./a", "t.i/1.5/a",
               "t.i/1000000000001/a", "t.i/9999999999999/a", "t.i/10000000000000/a", "t.i/" + "9" * 5000 + "/a", "tt.i/5/a", "t.j/5/a",
               "t.ii/5/a", "t.i5/a", "u.i/5/a", "a", "./t/a", "t./a"]

    def test_rows(self):
        table = Table("t")
        pairs = [("a", 1), ("t.i/5/a", 1), ("t/.", 0), ("t/a", 5), ("t/b", MOST), ("t/c", MOST + 1), ("t/d", -1), ("t/e", None),
                 ("t/f", 10 ** 40), ("t/i", 7), ("tt/a", 5)]
        self.assertEqual(table.rows(pairs), [(".", 0), ("a", 5), ("b", MOST), ("i", 7)])
        self.assertEqual(Table("tt").rows(pairs), [("a", 5)])
        self.assertEqual(table.rows([]), [])

    def test_rows_come_in_the_order_of_the_pairs(self):
        pairs = [("t/" + primary, 3) for primary in ("b", "a", "c")]
        self.assertEqual(Table("t").rows(pairs), [("b", 3), ("a", 3), ("c", 3)])

    def test_entries(self):
        table = Table("t")
        pairs = [("t.i/0/z", 1), ("t.i/10/b", 1), ("t.i/10/a", 1), ("t.i/1000000000000/a", 0), ("t.i/2/..", None), ("t.i/9/5", -7),
                 ("t.i/999999999999/q", 1), ("t/a", 5)]
        self.assertEqual(table.entries(pairs), [(0, "z"), (2, ".."), (9, "5"), (10, "a"), (10, "b"), (10 ** 12 - 1, "q"), (10 ** 12, "a")])
        self.assertEqual(table.entries([]), [])

    def test_near_misses(self):
        table = Table("t")
        for value in (0, 1, 5, None, MOST, MOST + 1, -1):
            pairs = [(key, value) for key in sorted(self.STRANGE)]
            self.assertEqual((table.rows(pairs), table.entries(pairs)), ([], []), value)
            self.assertIs(table.agrees(pairs), True)
            self.assertEqual(table.between(pairs, 0, MOST), [])

    def test_the_table_called_i(self):
        table = Table("i")
        pairs = [("i.i/5/a", 1), ("i/5", 3), ("i/a", 5)]
        self.assertEqual((table.rows(pairs), table.entries(pairs)), ([("5", 3), ("a", 5)], [(5, "a")]))

    def test_agrees(self):
        table = Table("t")
        rows = [("t/a", 5), ("t/b", 5), ("t/c", 0)]
        entries = [("t.i/0/c", 1), ("t.i/5/a", 1), ("t.i/5/b", 1)]
        self.assertIs(table.agrees([]), True)
        self.assertIs(table.agrees(entries + rows), True)
        self.assertIs(table.agrees([(key, None) for key, _ in entries] + rows), True)
        for at in range(3):
            self.assertIs(table.agrees(entries[:at] + entries[at + 1:] + rows), False)
            self.assertIs(table.agrees(entries + rows[:at] + rows[at + 1:]), False)
        self.assertIs(table.agrees([("t.i/0/a", 1)] + entries[1:] + rows), False)
        self.assertIs(table.agrees([("t.i/0/a", 1)] + entries + rows), False)
        # A row whose number is beyond its range is no row, so its entry is one too many.
        self.assertIs(table.agrees([("t.i/5/a", 1), ("t/a", MOST + 1)]), False)
        self.assertIs(table.agrees([("t/a", MOST + 1)]), True)

    def test_between(self):
        table = Table("t")
        pairs = [("t.i/0/c", 1), ("t.i/10/a", 1), ("t.i/5/a", 1), ("t.i/5/b", None), ("t/a", 7)]
        for low, high, found in [(0, 10, [(0, "c"), (5, "a"), (5, "b"), (10, "a")]), (5, 5, [(5, "a"), (5, "b")]), (1, 4, []),
                                 (6, 5, []), (10, 0, []), (-5, 0, [(0, "c")]), (5, MOST * 9, [(5, "a"), (5, "b"), (10, "a")]), (-9, -1, []),
                                 (11, 10 ** 40, [])]:
            self.assertEqual(table.between(pairs, low, high), found)

    def test_lists_are_new_and_arguments_are_not_changed(self):
        table = Table("t")
        pairs = [("t.i/5/a", 1), ("t/a", 5)]
        for call in (table.rows, table.entries, lambda given: table.between(given, 0, 9)):
            call(pairs).clear()
            self.assertEqual(len(call(pairs)), 1)
        self.assertEqual(pairs, [("t.i/5/a", 1), ("t/a", 5)])


if __name__ == "__main__":
    unittest.main()
