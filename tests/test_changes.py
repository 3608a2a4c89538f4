"""Point 66: changes of an index."""

import unittest

from meridian.errors import BadArgument
from meridian.views.changes import Change
from meridian.views.stages import ABSENT, DELETE, PUBLIC, WRITE, holds_at
from meridian.views.tables import Table
from tests.helpers import dice, error_of
from tests.test_tables import BAD_NUMBERS, BAD_PRIMARIES, MOST

T = Table("t")
FAR = 10 ** 40


def row(primary):
    return "t/" + primary


def entry(number, primary):
    return "t.i/" + str(number) + "/" + primary


class Model:
    """A change as point 66 says, without programs: rows and entries are kept apart."""

    def __init__(self, servers, rows):
        self.numbers = {key[2:]: value for key, value in rows.items() if key.startswith("t/")}
        self.entries = set()
        self.stages = [0] * servers
        self.cursor = ""

    def act(self, server, word, primary, *numbers):
        stage = self.stages[server]
        present = self.numbers.get(primary)
        if present != (None if word == "insert" else numbers[0]):
            return False
        if word == "delete":
            del self.numbers[primary]
        else:
            self.numbers[primary] = numbers[-1]
        if word != "insert" and stage >= 1:
            self.entries.discard((numbers[0], primary))
        if word != "delete" and stage >= 2:
            self.entries.add((numbers[-1], primary))
        if stage < 2:
            self.cursor = ""
        return True

    def lacks(self):
        return bool({(number, primary) for primary, number in self.numbers.items()} - self.entries)

    def move(self, server, by):
        stages = list(self.stages)
        stages[server] += by
        if stages[server] not in range(4) or max(stages) - min(stages) > 1:
            return False
        if (by == 1 and stages[server] == 3 and self.lacks()) or (by == -1 and stages[server] == 0 and self.entries):
            return False
        self.stages = stages
        return True

    def fill(self, many):
        if min(self.stages) < 2:
            return False
        for primary in sorted(primary for primary in self.numbers if primary > self.cursor)[:many]:
            self.entries.add((self.numbers[primary], primary))
            self.cursor = primary
        return True

    def purge(self, many):
        if max(self.stages) > 1:
            return False
        self.entries -= set(sorted(self.entries)[:many])
        self.cursor = ""
        return True

    def view(self, others):
        rows = {row(primary): number for primary, number in self.numbers.items()}
        rows.update({entry(number, primary): 1 for number, primary in self.entries})
        rows.update(others)
        needed = 2 if 3 in self.stages else min(min(self.stages), 1)
        return sorted(rows.items()), self.stages, self.cursor, needed


def view(change):
    return change.rows(), change.stages(), change.cursor, change.needed


class ChangeTest(unittest.TestCase):

    def check(self, change, possible, act, *args):
        before = view(change)
        self.assertIs(act(*args), possible, args)
        if not possible:
            self.assertEqual(view(change), before)

    def raised(self, servers, stage, rows=None):
        """Return a change whose servers are all at a stage."""
        change = Change(T, servers, rows or {})
        for _ in range(stage):
            for server in range(servers):
                self.assertTrue(change.raise_stage(server))
        return change

    def test_a_new_change(self):
        change = Change(T, 3, {"t/b": 5, "a": 1})
        self.assertEqual(view(change), ([("a", 1), ("t/b", 5)], [ABSENT] * 3, "", ABSENT))

    def test_bad_arguments(self):
        for servers in (0, -1, -FAR):
            self.assertEqual(error_of(Change, T, servers, {}), BadArgument)
        for key in ("t.i/5/a", "t.i/0/a", "t.i/1000000000000/."):
            self.assertEqual(error_of(Change, T, 1, {key: 1}), BadArgument)
            self.assertEqual(error_of(Change, T, 1, {key: 0, "t/a": 5}), BadArgument)
        for key in ("t.i/05/a", "t.i/5/", "tt.i/5/a", "t.i/5"):
            self.assertIsInstance(Change(T, 1, {key: 1}), Change)
        change = Change(T, 2, {"t/a": 5})
        for server in (-1, 2, FAR):
            for call in [(change.insert, server, "b", 1), (change.update, server, "a", 5, 6), (change.delete, server, "a", 5),
                         (change.raise_stage, server), (change.lower_stage, server)]:
                self.assertEqual(error_of(*call), BadArgument)
        for primary in BAD_PRIMARIES:
            for call in [(change.insert, 0, primary, 1), (change.update, 0, primary, 5, 6), (change.delete, 0, primary, 5)]:
                self.assertEqual(error_of(*call), BadArgument)
        for number in BAD_NUMBERS:
            for call in [(change.insert, 0, "b", number), (change.update, 0, "a", number, 6), (change.update, 0, "a", 5, number),
                         (change.delete, 0, "a", number)]:
                self.assertEqual(error_of(*call), BadArgument)
        for many in (0, -1, -FAR):
            for stage in range(4):
                other = self.raised(1, stage)
                self.assertEqual(error_of(other.fill, many), BadArgument)
                self.assertEqual(error_of(other.purge, many), BadArgument)
        self.assertEqual(view(change), ([("t/a", 5)], [0, 0], "", 0))

    def test_lists_may_be_changed(self):
        rows = {"t/a": 5}
        change = Change(T, 1, rows)
        rows.clear()
        change.rows().clear()
        change.stages().clear()
        self.assertEqual(view(change), ([("t/a", 5)], [0], "", 0))

    def test_acts_at_each_stage(self):
        for stage in range(4):
            change = self.raised(2, stage)
            entries = [(entry(5, "k"), 1)] if stage >= WRITE else []
            self.check(change, True, change.insert, 1, "k", 5)
            self.assertEqual(change.rows(), entries + [(row("k"), 5)])
            self.check(change, False, change.insert, 0, "k", 5)
            self.check(change, False, change.update, 0, "k", 6, 7)
            self.check(change, False, change.delete, 0, "k", 6)
            self.check(change, False, change.delete, 0, "j", 5)
            self.check(change, True, change.update, 0, "k", 5, 0)
            entries = [(entry(0, "k"), 1)] if stage >= WRITE else []
            self.assertEqual(change.rows(), entries + [(row("k"), 0)])
            self.check(change, True, change.update, 0, "k", 0, 0)
            self.check(change, True, change.delete, 1, "k", 0)
            self.assertEqual(change.rows(), [])

    def test_the_stage_of_the_server_that_acts_counts(self):
        change = self.raised(2, DELETE)
        change.raise_stage(1)
        change.insert(1, "a", 5)
        change.insert(0, "b", 5)
        self.assertEqual(change.rows(), [(entry(5, "a"), 1), (row("a"), 5), (row("b"), 5)])
        change.update(0, "a", 5, 6)
        change.update(1, "b", 5, 6)
        self.assertEqual(change.rows(), [(entry(6, "b"), 1), (row("a"), 6), (row("b"), 6)])

    def test_raising(self):
        change = Change(T, 3, {})
        self.check(change, True, change.raise_stage, 1)
        self.check(change, False, change.raise_stage, 1)
        self.check(change, True, change.raise_stage, 0)
        self.check(change, False, change.raise_stage, 0)
        self.check(change, True, change.raise_stage, 2)
        self.assertEqual(change.stages(), [1, 1, 1])
        change = self.raised(2, PUBLIC)
        self.check(change, False, change.raise_stage, 0)
        change = self.raised(1, WRITE, {"t/a": 5})
        self.check(change, False, change.raise_stage, 0)
        change.fill(1)
        self.check(change, True, change.raise_stage, 0)
        # Only for the stage public no row may be lacking.
        change = Change(T, 1, {"t/a": 5})
        for possible in (True, True, False):
            self.check(change, possible, change.raise_stage, 0)

    def test_lowering(self):
        change = self.raised(3, PUBLIC)
        self.check(change, True, change.lower_stage, 1)
        self.check(change, False, change.lower_stage, 1)
        self.check(change, True, change.lower_stage, 0)
        self.check(change, True, change.lower_stage, 2)
        self.assertEqual(change.stages(), [2, 2, 2])
        change = self.raised(1, WRITE)
        change.insert(0, "a", 5)
        self.check(change, True, change.lower_stage, 0)
        self.check(change, False, change.lower_stage, 0)
        change.purge(1)
        self.check(change, True, change.lower_stage, 0)
        self.check(change, False, change.lower_stage, 0)
        self.assertEqual(change.stages(), [ABSENT])

    def test_filling(self):
        rows = {row(primary): number for number, primary in enumerate(["c", "a", "b", "e", "d"])}
        rows.update({"u/a": 5, "t/x/y": 6})
        change = Change(T, 2, dict(rows))
        for stage in (ABSENT, DELETE):
            self.check(change, False, change.fill, 1)
            change.raise_stage(0)
            self.check(change, False, change.fill, 1)
            change.raise_stage(1)
        self.assertEqual(change.stages(), [WRITE, WRITE])
        for many, cursor in [(1, "a"), (2, "c"), (1, "d"), (FAR, "e"), (3, "e")]:
            self.check(change, True, change.fill, many)
            self.assertEqual(change.cursor, cursor)
            filled = [(entry(rows[row(primary)], primary), 1) for primary in "abcde" if primary <= cursor]
            self.assertEqual(change.rows(), sorted(list(rows.items()) + filled))
        change.raise_stage(0)
        self.check(change, True, change.fill, 1)

    def test_filling_when_there_are_no_rows(self):
        for stage in (WRITE, PUBLIC):
            change = self.raised(1, stage)
            self.check(change, True, change.fill, 5)
            self.assertEqual(view(change)[2], "")

    def test_purging(self):
        change = self.raised(1, WRITE)
        for primary, number in [("b", 10), ("a", 10), ("c", 9), ("d", MOST)]:
            change.insert(0, primary, number)
        change.delete(0, "d", MOST)
        change.insert(0, "d", 0)
        self.check(change, False, change.purge, 1)
        change.lower_stage(0)
        entries = [(0, "d"), (9, "c"), (10, "a"), (10, "b")]
        for many, left in [(1, entries[1:]), (2, entries[3:]), (FAR, []), (1, [])]:
            self.check(change, True, change.purge, many)
            self.assertEqual(T.entries(change.rows()), left)
            self.assertEqual(len(T.rows(change.rows())), 4)
        change.lower_stage(0)
        self.check(change, True, change.purge, 1)
        for stage in (WRITE, PUBLIC):
            change = self.raised(2, stage - 1)
            change.raise_stage(1)
            self.check(change, False, change.purge, 1)

    def test_the_cursor(self):
        change = self.raised(2, WRITE, {"t/a": 1, "t/b": 2})
        change.fill(9)
        for act in [(change.insert, 0, "0", 5), (change.update, 1, "a", 1, 3), (change.delete, 0, "b", 2), (change.raise_stage, 0),
                    (change.lower_stage, 0), (change.lower_stage, 1), (change.insert, 1, "a", 9), (change.delete, 1, "z", 9),
                    (change.insert, 0, "q", 9)]:
            act[0](*act[1:])
            self.assertEqual(change.cursor, "b", act)
        change.update(1, "a", 3, 3)
        self.assertEqual((change.cursor, change.stages()), ("", [WRITE, DELETE]))
        change.raise_stage(1)
        change.fill(2)
        self.assertEqual(change.cursor, "a")
        change.lower_stage(0)
        change.lower_stage(1)
        self.assertEqual(change.cursor, "a")
        change.purge(1)
        self.assertEqual(change.cursor, "")

    def test_the_needed_low_stage(self):
        change = Change(T, 2, {})
        found = [change.needed]
        for server in (0, 1, 1, 0, 0, 1):
            self.assertTrue(change.raise_stage(server))
            found.append(change.needed)
        self.assertEqual(found, [ABSENT, ABSENT, DELETE, DELETE, DELETE, WRITE, WRITE])

    def test_the_example(self):
        change = Change(T, 2, {"t/1": 5})
        for server in (0, 1, 0, 1):
            self.assertIs(change.raise_stage(server), True)
        self.assertEqual(change.stages(), [WRITE, WRITE])
        self.assertIs(change.fill(1), True)
        self.assertEqual(change.rows(), [("t.i/5/1", 1), ("t/1", 5)])
        self.assertIs(change.raise_stage(0), True)
        self.assertIs(change.raise_stage(1), True)
        self.assertEqual(change.stages(), [PUBLIC, PUBLIC])


class RunsTest(unittest.TestCase):

    OTHERS = {"a": 1, "tt/a": 4, "tt.i/4/a": 1, "t.i/04/a": 1, "u/t": 3}

    def test_against_a_plain_model(self):
        seen = {}
        public = 0
        for servers in (1, 2, 3, 4):
            for seed in range(5):
                source = dice(5950 + 10 * servers + seed)
                rows = {row(primary): source.randrange(3) for primary in "abcdef" if source.random() < 0.6}
                change, model = Change(T, servers, {**rows, **self.OTHERS}), Model(servers, rows)
                upwards = 0.7
                for _ in range(700):
                    if source.random() < 0.02:
                        upwards = 1 - upwards
                    word, args = self.draw(source, servers, upwards)
                    found = getattr(change, word)(*args)
                    self.assertIs(found, self.expected(model, word, args), (word, args))
                    self.assertEqual(view(change), model.view(self.OTHERS))
                    self.check_promises(change)
                    seen[word, found] = seen.get((word, found), 0) + 1
                    public += change.stages() == [PUBLIC] * servers
        for word in ("insert", "update", "delete", "raise_stage", "lower_stage", "fill", "purge"):
            self.assertTrue(min(seen[word, True], seen[word, False]) > 100, seen)
        self.assertTrue(public > 200)

    def draw(self, source, servers, upwards):
        server, primary = source.randrange(servers), source.choice("abcdef")
        word = source.choices(["insert", "update", "delete", "raise_stage", "lower_stage", "fill", "purge"],
                              [4, 4, 3, 8 * upwards, 8 * (1 - upwards), 4, 3])[0]
        if word == "update":
            return word, (server, primary, source.randrange(3), source.randrange(3))
        if word in ("insert", "delete"):
            return word, (server, primary, source.randrange(3))
        return word, (source.randrange(1, 4),) if word in ("fill", "purge") else (server,)

    def expected(self, model, word, args):
        if word in ("insert", "update", "delete"):
            return model.act(args[0], word, *args[1:])
        if word in ("raise_stage", "lower_stage"):
            return model.move(args[0], 1 if word == "raise_stage" else -1)
        return getattr(model, word)(*args)

    def check_promises(self, change):
        self.assertTrue(max(change.stages()) - min(change.stages()) <= 1)
        self.assertIs(holds_at(T, change.needed, change.rows()), True)
        rows = dict(change.rows())
        for primary, number in T.rows(change.rows()):
            if primary <= change.cursor:
                self.assertIn(entry(number, primary), rows)

    def test_every_server_can_reach_public_after_a_fill(self):
        for seed in range(30):
            source = dice(5990 + seed)
            servers = source.randrange(1, 5)
            change = Change(T, servers, {row(primary): source.randrange(3) for primary in "abcdef" if source.random() < 0.6})
            for _ in range(2):
                for server in range(servers):
                    self.assertTrue(change.raise_stage(server))
            for _ in range(10):
                self.assertTrue(change.fill(source.randrange(1, 3)))
                self.act_some(source, change, servers)
            self.assertTrue(change.fill(6))
            for server in range(servers):
                self.act_some(source, change, servers)
                self.assertTrue(change.raise_stage(server))
            self.assertEqual(change.stages(), [PUBLIC] * servers)

    def act_some(self, source, change, servers):
        for _ in range(4):
            word, args = self.draw(source, servers, 0.5)
            if word in ("insert", "update", "delete"):
                getattr(change, word)(*args)


if __name__ == "__main__":
    unittest.main()
