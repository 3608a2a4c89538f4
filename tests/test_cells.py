"""Point 35: cell stores."""

import unittest

from meridian.errors import BadArgument, Refused
from meridian.ledger.cells import Cells
from tests.helpers import KEYS, dice, error_of

FAR = 10 ** 40


class Model:
    """A plain list of versions (key, time, value), in any order."""

    def __init__(self, versions=()):
        self.versions = list(versions)

    def of(self, key):
        return sorted((time, value) for other, time, value in self.versions if other == key)

    def keys(self):
        return sorted({key for key, _, _ in self.versions})

    def value_at(self, key, time):
        return ([None] + [value for moment, value in self.of(key) if moment <= time])[-1]

    def put(self, time, writes):
        """Add versions; return the error that this is, or None."""
        if time < 1:
            return BadArgument
        if any(moment >= time for key, _ in writes for moment, _ in self.of(key)):
            return Refused
        self.versions.extend((key, time, value) for key, value in writes)
        return None

    def trim(self, time):
        left = [(key, moment, value) for key, moment, value in self.versions
                if not any(moment < later <= time for later, _ in self.of(key))]
        many = {key: sum(other == key for other, _, _ in left) for key in self.keys()}
        self.versions = [(key, moment, value) for key, moment, value in left
                         if not (many[key] == 1 and value is None and moment <= time)]


def example():
    cells = Cells()
    cells.put(5, (("a", 1), ("b", 2)))
    cells.put(9, (("a", None),))
    return cells


def all_of(cells):
    return {key: cells.versions(key) for key in cells}


class CellsTest(unittest.TestCase):

    def check(self, cells, model, times):
        keys = model.keys()
        self.assertEqual(len(cells), len(keys))
        self.assertEqual(sorted(cells), keys)
        for key in KEYS:
            versions = model.of(key)
            self.assertEqual(cells.versions(key), versions)
            self.assertIs(key in cells, key in keys)
            last = versions[-1] if versions else (0, None)
            self.assertEqual((cells.last_time(key), cells.last_value(key)), last)
            for time in times:
                self.assertEqual(cells.value_at(key, time), model.value_at(key, time))
        for time in times:
            rows = [(key, model.value_at(key, time)) for key in keys if model.value_at(key, time) is not None]
            self.assertEqual(cells.rows_at(time), rows)
            for after in times:
                changes = [(moment, key, value) for key, moment, value in model.versions if after < moment <= time]
                self.assertEqual(cells.changes(after, time), sorted(changes, key=lambda change: change[:2]))

    def test_new_cells(self):
        self.check(Cells(), Model(), (-1, 0, 1, FAR))

    def test_example(self):
        cells = example()
        self.assertEqual((cells.value_at("a", 8), cells.value_at("a", 9)), (1, None))
        self.assertEqual(cells.rows_at(9), [("b", 2)])
        self.assertIsNone(cells.trim(9))
        self.assertEqual((list(cells), "a" in cells, len(cells)), (["b"], False, 1))

    def test_put(self):
        cells = Cells()
        for time, writes in [(1, (("a", 1),)), (2, (("a", None), ("b", 0))), (3, ()), (FAR, (("a", -5), ("c", None)))]:
            self.assertIsNone(cells.put(time, writes))
        self.assertEqual(all_of(cells), {"a": [(1, 1), (2, None), (FAR, -5)], "b": [(2, 0)], "c": [(FAR, None)]})
        for key, last in [("a", (FAR, -5)), ("b", (2, 0)), ("c", (FAR, None)), ("d", (0, None))]:
            self.assertEqual((cells.last_time(key), cells.last_value(key)), last)

    def test_puts_at_below_and_above_the_times_of_versions(self):
        for time, error in [(10, None), (9, Refused), (8, Refused), (5, Refused), (4, Refused), (1, Refused),
                            (0, BadArgument), (-1, BadArgument), (-FAR, BadArgument)]:
            for writes in [(("a", 3),), (("a", 3), ("b", 4)), (("a", None), ("c", 1))]:
                cells = example()
                self.assertIs(error_of(cells.put, time, writes), error)
                if error is not None:
                    self.assertEqual(all_of(cells), all_of(example()))
        for time, error in [(6, None), (5, Refused), (9, None)]:
            self.assertIs(error_of(example().put, time, (("b", 4), ("c", 5))), error)
            self.assertIs(error_of(example().put, time, (("0", 4), ("b", 5))), error)
        for time in (1, 5, 9):
            self.assertIsNone(error_of(example().put, time, (("c", 4),)))
            self.assertIsNone(error_of(example().put, time, ()))
        self.assertIs(error_of(example().put, 0, ()), BadArgument)

    def test_a_put_that_is_refused_for_one_key_changes_none(self):
        cells = example()
        for writes in [(("a", 3), ("b", 4), ("c", 5)), (("0", 3), ("a", 4)), (("a", 4), ("z", 3))]:
            self.assertIs(error_of(cells.put, 7, writes), Refused)
            self.assertEqual(all_of(cells), all_of(example()))

    def test_changes(self):
        cells = example()
        for after, upto, found in [(0, 9, [(5, "a", 1), (5, "b", 2), (9, "a", None)]), (4, 5, [(5, "a", 1), (5, "b", 2)]),
                                   (5, 9, [(9, "a", None)]), (5, 8, []), (9, 9, []), (9, 20, []), (8, FAR, [(9, "a", None)]),
                                   (6, 3, []), (-5, 0, [])]:
            self.assertEqual(cells.changes(after, upto), found)

    def test_trims(self):
        versions = {"a": [(2, 1), (4, 2), (6, None)], "b": [(3, None), (5, 7)], "c": [(4, None)], "d": [(1, 9)]}
        for time, left in [
                (0, versions), (1, versions), (2, versions), (3, versions),
                (4, {"a": [(4, 2), (6, None)], "b": [(3, None), (5, 7)], "d": [(1, 9)]}),
                (5, {"a": [(4, 2), (6, None)], "b": [(5, 7)], "d": [(1, 9)]}),
                (6, {"b": [(5, 7)], "d": [(1, 9)]}), (FAR, {"b": [(5, 7)], "d": [(1, 9)]}), (-3, versions)]:
            cells = Cells()
            for moment in range(1, 7):
                cells.put(moment, tuple((key, value) for key in sorted(versions) for at, value in versions[key] if at == moment))
            self.assertIsNone(cells.trim(time))
            self.assertEqual(all_of(cells), left, time)

    def test_a_key_that_was_trimmed_away(self):
        cells = example()
        cells.trim(20)
        self.assertEqual((cells.last_time("a"), cells.versions("a"), cells.value_at("a", 30)), (0, [], None))
        cells.put(3, (("a", 4),))
        self.assertEqual(cells.versions("a"), [(3, 4)])

    def test_lists_may_be_changed(self):
        cells = example()
        cells.versions("a").append(1)
        cells.versions("z").append(1)
        cells.rows_at(9).append(1)
        cells.changes(0, 9).append(1)
        self.assertEqual(all_of(cells), all_of(example()))
        self.assertEqual((cells.rows_at(9), cells.versions("z"), len(cells)), ([("b", 2)], [], 2))

    def test_twins(self):
        cells = example()
        twin = cells.twin()
        self.assertIsInstance(twin, Cells)
        self.assertEqual(all_of(twin), all_of(cells))
        twin.put(12, (("a", 7), ("c", 8)))
        self.assertEqual(all_of(cells), all_of(example()))
        cells.put(13, (("b", 1),))
        cells.trim(13)
        self.assertEqual(all_of(twin), {"a": [(5, 1), (9, None), (12, 7)], "b": [(5, 2)], "c": [(12, 8)]})
        self.assertEqual(all_of(cells), {"b": [(13, 1)]})

    def test_any_order(self):
        source = dice(35)
        kinds = {None: 0, Refused: 0, BadArgument: 0}
        times = tuple(range(-1, 32, 3)) + (FAR,)
        for _ in range(60):
            cells, model = Cells(), Model()
            for step in range(1, 30):
                keys = sorted(source.sample(KEYS, source.randrange(4)))
                writes = tuple((key, source.choice([None, 0, 5, -1])) for key in keys)
                time = source.choice([step, step, source.randrange(-1, step + 1)])
                error = model.put(time, writes)
                self.assertIs(error_of(cells.put, time, writes), error)
                kinds[error] += 1
                if source.random() < 0.1:
                    self.trim(source.randrange(-1, 30), cells, model)
            self.check(cells, model, times)
        self.assertTrue(min(kinds.values()) > 30, kinds)

    def trim(self, time, cells, model):
        before = {(key, later): cells.value_at(key, later) for key in KEYS for later in (time, time + 1, time + 9, FAR)}
        cells.trim(time)
        model.trim(time)
        for (key, later), value in before.items():
            self.assertEqual(cells.value_at(key, later), value)


if __name__ == "__main__":
    unittest.main()
