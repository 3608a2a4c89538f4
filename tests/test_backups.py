"""Points 57 and 59: backups."""

import unittest

from meridian.errors import BadArgument, BadBytes, BadSeal, Refused
from meridian.views.backups import Backup
from meridian.views.feeds import Feed
from meridian.views.snapshots import settled_time, snapshot
from meridian.wire.seals import seal
from meridian.wire.varints import encode_number
from meridian.world.cluster import Cluster
from meridian.world.operator import Operator
from tests.clusters import long_run, some_cluster
from tests.helpers import EDGE_NUMBERS, KEYS, dice, error_of
from tests.smooth import begin, handle_client
from tests.test_feeds import PROGRAMS, changes_of, close_all

FAR = 10 ** 60
ROWS = [("a", 5), ("b/1", 0), ("c", -3)]


class BackupTest(unittest.TestCase):

    def test_time_and_rows(self):
        for rows in ([], ROWS, tuple(ROWS), [("a", FAR)]):
            for time in (0, 1, FAR):
                backup = Backup(time, rows)
                self.assertEqual((backup.moment, backup.rows()), (time, list(rows)))
                self.assertIsInstance(backup.rows(), list)

    def test_bad_arguments(self):
        for time, rows in [(-1, []), (-FAR, ROWS), (5, [("", 1)]), (5, [("", 1), ("a", 1)]), (5, [("A", 1)]), (5, [("a b", 1)]),
                           (5, [("a", 1), ("a", 1)]), (5, [("a", 1), ("a", 2)]), (5, [("b", 1), ("a", 1)]),
                           (5, [("a", 1), ("c", 1), ("b", 1)]), (5, [("a", 1), ("b_", 1)]), (0, (("b", 1), ("a", 2)))]:
            self.assertEqual(error_of(Backup, time, rows), BadArgument, (time, rows))

    def test_lists_may_be_changed(self):
        rows = list(ROWS)
        backup = Backup(5, rows)
        rows.clear()
        backup.rows().clear()
        backup.pack().clear()
        changes = [(6, "a", 1)]
        later = backup.advanced(changes, 7)
        changes.clear()
        self.assertEqual((backup.moment, backup.rows()), (5, ROWS))
        self.assertEqual((later.moment, later.rows()), (7, [("a", 1)] + ROWS[1:]))
        block = backup.pack()
        before = list(block)
        again = Backup.unpack(block)
        self.assertEqual(block, before)
        block.clear()
        self.assertEqual(again.rows(), ROWS)


class PackTest(unittest.TestCase):

    def test_the_block(self):
        self.assertEqual(Backup(0, []).pack(), seal([0, 0]))
        self.assertEqual(Backup(300, [("a", 1), ("b.", -1), ("c", 0)]).pack(),
                         seal([172, 2, 3, 1, 0, 2, 2, 1, 36, 1, 1, 2, 0]))

    def test_there_and_back(self):
        source = dice(5700)
        numbers = [sign * number for number in EDGE_NUMBERS for sign in (1, -1)]
        for time in EDGE_NUMBERS:
            keys = sorted(source.sample(KEYS, source.randrange(len(KEYS) + 1)))
            backup = Backup(time, [(key, source.choice(numbers)) for key in keys])
            again = Backup.unpack(backup.pack())
            self.assertIsInstance(again, Backup)
            self.assertEqual((again.moment, again.rows()), (backup.moment, backup.rows()))
        for number in numbers:
            self.assertEqual(Backup.unpack(Backup(0, [("a", number)]).pack()).rows(), [("a", number)])
        many = [("k" + str(number).zfill(3), number) for number in range(200)]
        self.assertEqual(Backup.unpack(Backup(3, many).pack()).rows(), many)

    def test_one_changed_byte(self):
        block = Backup(300, ROWS).pack()
        for at in range(len(block)):
            for byte in range(256):
                if byte != block[at]:
                    self.assertEqual(error_of(Backup.unpack, block[:at] + [byte] + block[at + 1:]), BadSeal)

    def test_blocks_that_are_too_short_to_be_sealed(self):
        for block in ([], [0], [0, 0]):
            self.assertEqual(error_of(Backup.unpack, block), BadBytes)
        self.assertEqual(error_of(Backup.unpack, [0, 0, 0]), BadSeal)

    def test_rightly_sealed_blocks_that_are_no_backups(self):
        inner = Backup(300, ROWS).pack()[:-3]
        for length in range(len(inner)):
            self.assertEqual(error_of(Backup.unpack, seal(inner[:length])), BadBytes, length)
        for byte in (0, 1, 128, 255):
            self.assertEqual(error_of(Backup.unpack, seal(inner + [byte])), BadBytes)
        bad = {
            "an empty key": [0, 1, 0, 0], "an empty key first": [0, 2, 0, 0, 1, 0, 0], "equal keys": [0, 2, 1, 0, 0, 1, 0, 0],
            "equal rows": [0, 2, 1, 0, 2, 1, 0, 2], "turned keys": [0, 2, 1, 1, 0, 1, 0, 0], "a strange code": [0, 1, 1, 38, 0],
            "a long number": [0, 1, 1, 0, 128, 0], "a long time": [128, 0, 0], "a long count": [0, 128, 0],
            "too few rows": [0, 2, 1, 0, 0], "too many rows": [0, 0, 1, 0, 0], "very many rows": [0] + encode_number(FAR)}
        for word, block in bad.items():
            self.assertEqual(error_of(Backup.unpack, seal(block)), BadBytes, word)
        self.assertEqual(Backup.unpack(seal([0, 2, 1, 0, 0, 1, 1, 1])).rows(), [("a", 0), ("b", -1)])


class AdvancedTest(unittest.TestCase):

    def test_changes_in_order(self):
        backup = Backup(10, ROWS)
        for changes, upto, rows in [
                ([], 10, ROWS), ([], 99, ROWS), ([(11, "a", 6)], 11, [("a", 6)] + ROWS[1:]), ([(11, "a", None)], 11, ROWS[1:]),
                ([(11, "z", None)], 12, ROWS), ([(11, "b", 0)], 12, [("a", 5), ("b", 0)] + ROWS[1:]),
                ([(11, "a", None), (12, "a", 7), (13, "a", 8)], 20, [("a", 8)] + ROWS[1:]),
                ([(11, "a", 7), (12, "a", None)], 12, ROWS[1:]),
                ([(11, "a", 1), (11, "b", 2), (12, "a", 3)], 12, [("a", 3), ("b", 2)] + ROWS[1:]),
                (((FAR, "c", FAR),), FAR, ROWS[:2] + [("c", FAR)])]:
            later = backup.advanced(changes, upto)
            self.assertIsInstance(later, Backup)
            self.assertEqual((later.moment, later.rows()), (upto, rows))
            self.assertEqual((backup.moment, backup.rows()), (10, ROWS))

    def test_bad_arguments(self):
        backup = Backup(10, ROWS)
        for changes, upto in [([], 9), ([], 0), ([], -1), ([(9, "a", 1)], 9), ([(10, "a", 1)], 20), ([(9, "a", 1)], 20), ([(0, "a", 1)], 20),
                              ([(21, "a", 1)], 20), ([(11, "a", 1), (21, "a", 1)], 20), ([(12, "a", 1), (11, "b", 1)], 20),
                              ([(12, "b", 1), (12, "a", 1)], 20), ([(12, "a", 1), (12, "a", 1)], 20), ([(12, "a", 1), (12, "a", 2)], 20),
                              ([(11, "a", 1), (12, "b", 1), (12, "a", 1)], 20), ([(10, "a", 1), (11, "a", 2)], 20), ([(11, "a", 1)], 10)]:
            self.assertEqual(error_of(backup.advanced, changes, upto), BadArgument, (changes, upto))
        self.assertEqual((backup.moment, backup.rows()), (10, ROWS))


class TakenTest(unittest.TestCase):

    def test_at_below_and_above_the_settled_time(self):
        cluster = Cluster(PROGRAMS, [], cuts=["m"])
        begin(cluster)
        handle_client(cluster, 0)
        time, settled = cluster.client(0).result, settled_time(cluster)
        for moment, rows in [(0, []), (1, []), (time - 1, []), (time, [("a", 2), ("p", 1)]), (settled, [("a", 2), ("p", 1)])]:
            backup = Backup.taken(cluster, moment)
            self.assertIsInstance(backup, Backup)
            self.assertEqual((backup.moment, backup.rows()), (moment, rows))
        for moment in (settled + 1, FAR):
            self.assertEqual(error_of(Backup.taken, cluster, moment), Refused)
        for moment in (-1, -FAR):
            self.assertEqual(error_of(Backup.taken, cluster, moment), BadArgument)
        for node in range(3):
            cluster.crash(node)
        self.assertEqual(error_of(Backup.taken, cluster, 1), Refused)
        self.assertEqual(error_of(Backup.taken, cluster, -1), BadArgument)
        self.assertEqual(Backup.taken(cluster, 0).rows(), [])

    def test_backups_while_transactions_go_on(self):
        many = 0
        for seed in range(5710, 5722):
            source = dice(seed)
            cluster = some_cluster(source, bound=source.choice([1, 5]))
            feed, fed = Feed(), Backup(0, [])
            taken = []
            for _ in long_run(source, cluster, 1000, 0.04):
                if source.random() < 0.02:
                    taken.append(Backup.taken(cluster, max(0, settled_time(cluster) - source.choice([0, 0, 1, 20]))))
                    changes = feed.pull(cluster)
                    fed = fed.advanced(changes, feed.done)
            Operator(cluster).settle()
            close_all(cluster)
            taken.append(Backup.taken(cluster, settled_time(cluster)))
            self.assertEqual(fed.rows(), snapshot(cluster, fed.moment))
            taken = sorted(taken, key=lambda backup: backup.moment)
            for earlier, later in zip(taken, taken[1:]):
                changes = changes_of(cluster, earlier.moment, later.moment)
                self.assertEqual(earlier.advanced(changes, later.moment).pack(), later.pack())
                self.check_steps(source, earlier, changes, later)
                many += len(changes)
        self.assertTrue(many > 60, many)

    def check_steps(self, source, earlier, changes, later):
        """Advance in several steps, which must lead to the same backup."""
        backup = earlier
        while backup.moment < later.moment:
            upto = source.randrange(backup.moment + 1, later.moment + 1)
            backup = backup.advanced([change for change in changes if backup.moment < change[0] <= upto], upto)
        self.assertEqual((backup.moment, backup.rows()), (later.moment, later.rows()))


if __name__ == "__main__":
    unittest.main()
