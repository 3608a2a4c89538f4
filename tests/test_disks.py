"""Points 12 and 13: disks."""

import unittest

from meridian.errors import BadArgument
from meridian.storage.disks import Disk
from meridian.storage.frames import encode_frame
from tests.helpers import dice, error_of, plain_frames


def some_block(source):
    return [source.randrange(256) for _ in range(source.choice([0, 1, 2, 3, 9, 140]))]


def example():
    disk = Disk()
    disk.write([1])
    disk.write([2])
    disk.sync()
    disk.write([3])
    return disk


class Model:
    """A disk as point 12 describes it."""

    def __init__(self):
        self.kept = []
        self.loose = []

    def crash(self, keep, last):
        moved = self.loose[:keep]
        if moved and last is not None:
            moved = moved[:-1] + [last]
        self.kept = self.kept + moved
        self.loose = []


class DiskTest(unittest.TestCase):

    def check(self, disk, model):
        self.assertEqual(disk.kept(), model.kept)
        self.assertEqual(disk.loose(), model.loose)
        self.assertEqual(disk.size, len(model.kept) + len(model.loose))
        self.assertEqual(disk.frames(), plain_frames(model.kept + model.loose)[0])

    def test_a_new_disk(self):
        disk = Disk()
        self.check(disk, Model())
        for call in (disk.sync, disk.mend, disk.crash):
            self.assertIsNone(call())
        self.check(disk, Model())

    def test_examples(self):
        self.assertEqual(example().loose(), [1, 3, 0, 0, 221])
        for keep, last, frames in [(0, None, 2), (1, None, 2), (4, None, 2), (5, None, 3), (5, 221, 3), (5, 220, 2),
                                   (5, 0, 2), (4, 0, 2), (4, 7, 2), (0, 7, 2)]:
            disk = example()
            disk.crash(keep=keep, last=last)
            self.assertEqual(disk.frames(), [[1], [2], [3]][:frames])
            self.assertEqual(disk.size, 10 + keep)
            disk.mend()
            self.assertEqual(disk.size, 5 * frames)
            self.assertEqual(disk.frames(), [[1], [2], [3]][:frames])

    def test_write_and_sync(self):
        disk = Disk()
        self.assertIsNone(disk.write([]))
        self.assertEqual((disk.kept(), disk.loose(), disk.size), ([], [0, 0, 0, 7], 4))
        self.assertIsNone(disk.write([0]))
        self.assertEqual((disk.kept(), disk.loose(), disk.size), ([], [0, 0, 0, 7, 1, 0, 0, 0, 218], 9))
        self.assertEqual(disk.frames(), [[], [0]])
        self.assertIsNone(disk.sync())
        self.assertEqual((disk.kept(), disk.loose(), disk.size), ([0, 0, 0, 7, 1, 0, 0, 0, 218], [], 9))
        disk.write([1])
        self.assertEqual(disk.frames(), [[], [0], [1]])
        disk.mend()
        self.assertEqual((disk.kept(), disk.loose(), disk.size), ([0, 0, 0, 7, 1, 0, 0, 0, 218], [], 9))

    def test_mend_without_a_crash_removes_what_is_loose(self):
        disk = example()
        self.assertIsNone(disk.mend())
        self.assertEqual((disk.frames(), disk.loose(), disk.size), ([[1], [2]], [], 10))

    def test_what_is_written_behind_a_broken_frame_is_not_read(self):
        disk = example()
        disk.crash(keep=5, last=0)
        disk.write([4])
        self.assertEqual(disk.frames(), [[1], [2]])
        disk.sync()
        self.assertEqual((disk.frames(), disk.size), ([[1], [2]], 20))
        disk.write([5])
        disk.mend()
        self.assertEqual((disk.frames(), disk.size), ([[1], [2]], 10))

    def test_crashes_that_are_out_of_range(self):
        for disk, loose in ((Disk(), 0), (example(), 5)):
            kept = disk.kept()
            for keep in (-1, -2, loose + 1, loose + 2, 10 ** 30):
                for last in (None, 0, 7, 300, -1):
                    self.assertIs(error_of(disk.crash, keep=keep, last=last), BadArgument)
            for last in (-1, -2, 256, 257, 10 ** 30):
                for keep in (0, loose):
                    self.assertIs(error_of(disk.crash, keep=keep, last=last), BadArgument)
                self.assertIs(error_of(disk.crash, last=last), BadArgument)
            self.assertEqual((disk.kept(), len(disk.loose())), (kept, loose))

    def test_every_count_and_every_last_byte(self):
        for keep in range(6):
            for last in [None] + list(range(256)):
                disk, model = example(), Model()
                model.kept, model.loose = disk.kept(), disk.loose()
                self.assertIsNone(disk.crash(keep=keep, last=last))
                model.crash(keep, last)
                self.check(disk, model)

    def test_actions_in_any_order(self):
        source = dice(12)
        for _ in range(60):
            disk, model = Disk(), Model()
            for _ in range(25):
                self.act(source, disk, model)
                self.check(disk, model)

    def act(self, source, disk, model):
        action = source.choice(["write", "write", "write", "sync", "crash", "mend"])
        if action == "write":
            block = some_block(source)
            given = list(block)
            disk.write(given)
            self.assertEqual(given, block)
            given.append(1)
            model.loose = model.loose + encode_frame(block)
        elif action == "sync":
            disk.sync()
            model.kept, model.loose = model.kept + model.loose, []
        elif action == "crash":
            keep = source.randrange(len(model.loose) + 1)
            last = source.choice([None, source.randrange(256), model.loose[keep - 1] if keep > 0 else 0])
            disk.crash(keep=keep, last=last)
            model.crash(keep, last)
        else:
            disk.mend()
            model.kept, model.loose = model.kept[:plain_frames(model.kept)[1]], []

    def test_what_a_crash_leaves(self):
        source = dice(13)
        for _ in range(60):
            disk = Disk()
            safe, later = [], []
            for _ in range(25):
                action = source.choice(["write", "write", "write", "sync", "crash"])
                if action == "write":
                    later.append(some_block(source))
                    disk.write(later[-1])
                elif action == "sync":
                    disk.sync()
                    safe, later = safe + later, []
                else:
                    safe, later = safe + self.crash(source, disk, later), []
                self.assertEqual(disk.frames(), safe + later)

    def crash(self, source, disk, later):
        """Crash and mend the disk; return those of the later blocks that point 13 lets survive."""
        loose = disk.loose()
        keep = source.randrange(len(loose) + 1)
        torn = keep > 0 and source.randrange(2) == 0
        last = (loose[keep - 1] + source.randrange(1, 256)) % 256 if torn else None
        disk.crash(keep=keep, last=last)
        disk.mend()
        self.assertEqual(disk.loose(), [])
        end = 0
        for number, block in enumerate(later):
            end += len(encode_frame(block))
            if end > keep or (torn and end == keep):
                return later[:number]
        return later

    def test_lists_that_are_returned_are_new(self):
        disk = example()
        for part in (disk.kept(), disk.loose(), disk.frames(), disk.frames()[0]):
            part.append(1)
        self.assertEqual((disk.kept(), disk.loose()), (encode_frame([1]) + encode_frame([2]), encode_frame([3])))
        self.assertEqual(disk.frames(), [[1], [2], [3]])


if __name__ == "__main__":
    unittest.main()
