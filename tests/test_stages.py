"""Points 64 and 65: the stages of an index."""

import itertools
import unittest

from meridian.deals.programs import check_program, put_rows, run_alone
from meridian.errors import BadArgument
from meridian.views.stages import (
    ABSENT, DELETE, PUBLIC, WRITE, StagedTable, fill_program, holds_at, lacking, orphans, purge_program)
from meridian.views.tables import Table
from tests.helpers import dice, error_of
from tests.test_tables import BAD_NUMBERS, BAD_PRIMARIES, MOST

T = Table("t")


def plain_holds(low, rows):
    """Say whether the index of t holds at a low stage, comparing rows and entries one by one."""
    wanted = {"t.i/" + str(number) + "/" + key[2:] for key, number in rows.items() if key.startswith("t/")}
    there = {key for key in rows if key.startswith("t.i/")}
    return [there == set(), there <= wanted, there == wanted][low]


def run_in(rows, program):
    _, writes, completed = run_alone(rows, program)
    return put_rows(rows, writes), completed


class ProgramTest(unittest.TestCase):

    def test_the_stages(self):
        self.assertEqual((ABSENT, DELETE, WRITE, PUBLIC), (0, 1, 2, 3))
        for stage in range(4):
            self.assertEqual(StagedTable(T, stage).stage, stage)
        for stage in (-1, 4, 10 ** 40):
            self.assertEqual(error_of(StagedTable, T, stage), BadArgument)

    def test_insert(self):
        short = (("equal", "t/k", None), ("put", "t/k", 5))
        for stage, program in [(0, short), (1, short), (2, short + (("put", "t.i/5/k", 1),)), (3, T.insert("k", 5))]:
            self.assertEqual(StagedTable(T, stage).insert("k", 5), program)

    def test_update(self):
        for old, new in [(5, 6), (5, 5), (0, MOST)]:
            short = (("equal", "t/k", old), ("put", "t/k", new))
            drop, put = ("drop", "t.i/" + str(old) + "/k"), ("put", "t.i/" + str(new) + "/k", 1)
            for stage, program in [(0, short), (1, short + (drop,)), (2, short + (drop, put)), (3, T.update("k", old, new))]:
                self.assertEqual(StagedTable(T, stage).update("k", old, new), program)

    def test_delete(self):
        short = (("equal", "t/k", 5), ("drop", "t/k"))
        drop = ("drop", "t.i/5/k")
        for stage, program in [(0, short), (1, short + (drop,)), (2, short + (drop,)), (3, T.delete("k", 5))]:
            self.assertEqual(StagedTable(T, stage).delete("k", 5), program)

    def test_fill_and_purge(self):
        self.assertEqual(fill_program(T, "k", 5), (("equal", "t/k", 5), ("put", "t.i/5/k", 1)))
        self.assertEqual(purge_program(T, "k", 5), (("drop", "t.i/5/k"),))
        for program in (fill_program(T, "k", 0), purge_program(T, "k", MOST)):
            self.assertIsNone(check_program(program))

    def test_bad_arguments(self):
        for primary in BAD_PRIMARIES:
            for call in (fill_program, purge_program):
                self.assertEqual(error_of(call, T, primary, 1), BadArgument)
            for stage in range(4):
                staged = StagedTable(T, stage)
                for call in [(staged.insert, primary, 1), (staged.update, primary, 1, 2), (staged.delete, primary, 1)]:
                    self.assertEqual(error_of(*call), BadArgument, call)
        for number in BAD_NUMBERS:
            for call in (fill_program, purge_program):
                self.assertEqual(error_of(call, T, "a", number), BadArgument)
            for stage in range(4):
                staged = StagedTable(T, stage)
                for call in [(staged.insert, "a", number), (staged.update, "a", number, 1), (staged.update, "a", 1, number),
                             (staged.delete, "a", number)]:
                    self.assertEqual(error_of(*call), BadArgument, call)


class HoldsTest(unittest.TestCase):

    PAIRS = [("a", 1), ("t.i/0/c", 1), ("t.i/5/a", None), ("t.i/5/b", 0), ("t.i/6/a", 1), ("t.i/9/x", 1), ("t.i/x/a", 1), ("t/a", 5), ("t/b", 6),
             ("t/c", None), ("t/d", MOST + 1), ("t/e", 0), ("tt.i/1/a", 1), ("tt/b", 1)]

    def test_orphans(self):
        self.assertEqual(orphans(T, self.PAIRS), [(0, "c"), (5, "b"), (6, "a"), (9, "x")])
        self.assertEqual(orphans(Table("tt"), self.PAIRS), [(1, "a")])
        self.assertEqual(orphans(T, []), [])

    def test_lacking_rows(self):
        self.assertEqual(lacking(T, self.PAIRS), [(0, "e"), (6, "b")])
        self.assertEqual(lacking(T, self.PAIRS + [("t/f", 2)]), [(0, "e"), (2, "f"), (6, "b")])
        self.assertEqual(lacking(Table("tt"), self.PAIRS), [(1, "b")])
        self.assertEqual(lacking(T, []), [])

    def test_holds_at(self):
        row, entry, orphan = ("t/a", 5), ("t.i/5/a", 1), ("t.i/4/a", 1)
        for pairs, expected in [([], (True, True, True)), ([row], (True, True, False)), ([entry, row], (False, True, True)),
                                ([entry], (False, False, False)), ([orphan, row], (False, False, False)),
                                ([orphan, entry, row], (False, False, False)), ([entry, row, ("t/b", 5)], (False, True, False)),
                                ([("tt.i/5/a", 1), ("tt/b", 5)], (True, True, True))]:
            self.assertEqual(tuple(holds_at(T, low, pairs) for low in range(3)), expected, pairs)
        for low in (-1, 3, 10 ** 40):
            self.assertEqual(error_of(holds_at, T, low, []), BadArgument)

    def test_against_a_plain_comparison(self):
        source = dice(5900)
        seen = {}
        for _ in range(600):
            rows = {"t/" + primary: source.randrange(2) for primary in "abc" if source.random() < 0.5}
            rows.update({"t.i/" + str(number) + "/" + primary: 1 for primary in "abc" for number in (0, 1) if source.random() < 0.2})
            pairs = sorted(rows.items())
            found = tuple(holds_at(T, low, pairs) for low in range(3))
            self.assertEqual(found, tuple(plain_holds(low, rows) for low in range(3)))
            for low in range(3):
                self.assertIsInstance(found[low], bool)
            self.assertEqual(T.agrees(pairs), orphans(T, pairs) == lacking(T, pairs) == [])
            seen[found] = seen.get(found, 0) + 1
        self.assertEqual(len(seen), 5, seen)

    def test_lists_are_new_and_arguments_are_not_changed(self):
        pairs = list(self.PAIRS)
        orphans(T, pairs).clear()
        lacking(T, pairs).clear()
        holds_at(T, 2, pairs)
        self.assertEqual((pairs, len(orphans(T, pairs)), len(lacking(T, pairs))), (self.PAIRS, 4, 2))


class KeepingTest(unittest.TestCase):
    """The promises of point 65, from all states of two rows with two numbers in which the index holds."""

    def states(self, low):
        keys = ["t/a", "t/b"] + ["t.i/" + str(number) + "/" + primary for primary in "ab" for number in (0, 1)]
        for numbers in itertools.product((None, 0, 1), repeat=2):
            for entries in itertools.product((None, 1), repeat=4):
                rows = {key: value for key, value in zip(keys, numbers + entries) if value is not None}
                if plain_holds(low, rows):
                    yield rows

    def programs(self, stage):
        staged = StagedTable(T, stage)
        for primary, old, new in itertools.product("ab", (0, 1), (0, 1)):
            yield staged.insert(primary, new)
            yield staged.update(primary, old, new)
            yield staged.delete(primary, old)

    def check(self, low, program):
        for rows in self.states(low):
            after, _ = run_in(rows, program)
            self.assertTrue(plain_holds(low, after), (low, rows, program))
            self.assertIs(holds_at(T, low, sorted(after.items())), True)

    def test_two_neighbouring_stages(self):
        for low in (0, 1, 2):
            for stage in (low, low + 1):
                for program in self.programs(stage):
                    self.check(low, program)

    def test_fills_and_purges(self):
        for primary, number in itertools.product("ab", (0, 1)):
            for low in (1, 2):
                self.check(low, fill_program(T, primary, number))
            for low in (0, 1):
                self.check(low, purge_program(T, primary, number))

    def test_stages_that_are_not_neighbours(self):
        rows, _ = run_in({}, StagedTable(T, WRITE).insert("a", 5))
        rows, completed = run_in(rows, StagedTable(T, ABSENT).delete("a", 5))
        self.assertTrue(completed)
        self.assertEqual(orphans(T, sorted(rows.items())), [(5, "a")])


if __name__ == "__main__":
    unittest.main()
