"""Point 11: frames."""

import unittest

from meridian.errors import BadBytes, BadSeal
from meridian.storage.frames import decode_frame, decode_frames, encode_frame
from tests.helpers import dice, error_of, plain_checksum, plain_frames


def some_blocks(source):
    found = [[source.randrange(256) for _ in range(source.randrange(10))] for _ in range(source.randrange(1, 5))]
    if source.randrange(4) == 0:
        found.insert(source.randrange(len(found) + 1), [source.randrange(256) for _ in range(140)])
    return found


class OneFrameTest(unittest.TestCase):

    def test_written_out(self):
        self.assertEqual(encode_frame([]), [0, 0, 0, 7])
        self.assertEqual(encode_frame([0]), [1, 0, 0, 0, 218])
        self.assertEqual(encode_frame([0, 0]), [2, 0, 0, 0, 26, 103])
        self.assertEqual(decode_frame([0, 0, 0, 7]), ([], 4))
        self.assertEqual(decode_frame([1, 0, 0, 0, 218]), ([0], 5))

    def test_there_and_back_between_other_bytes(self):
        source = dice(11)
        for size in list(range(10)) + [127, 128, 140, 300]:
            block = [source.randrange(256) for _ in range(size)]
            given = list(block)
            frame = encode_frame(given)
            head = [size] if size < 128 else [size % 128 + 128, size // 128]
            self.assertEqual(frame, head + block + list(plain_checksum(block).to_bytes(3, "big")))
            for before in ([], [0], [255, 7, 1]):
                for behind in ([], [0], [255, 255]):
                    whole = before + frame + behind
                    again = list(whole)
                    self.assertEqual(decode_frame(whole, len(before)), (block, len(before) + len(frame)))
                    self.assertEqual(whole, again)
            frame.append(1)
            self.assertEqual(given, block)

    def test_cut_frames(self):
        source = dice(111)
        for size in (0, 1, 2, 9, 140):
            frame = encode_frame([source.randrange(256) for _ in range(size)])
            for cut in range(len(frame)):
                self.assertIs(error_of(decode_frame, frame[:cut]), BadBytes)
                self.assertIs(error_of(decode_frame, [0, 0] + frame[:cut], 2), BadBytes)

    def test_wrong_checksums(self):
        source = dice(112)
        for size in (0, 1, 9, 140):
            frame = encode_frame([source.randrange(256) for _ in range(size)])
            for at in range(len(frame) - size - 3, len(frame)):
                for byte in (frame[at] ^ 1, 255 - frame[at], (frame[at] + 7) % 256):
                    wrong = frame[:at] + [byte] + frame[at + 1:]
                    self.assertIs(error_of(decode_frame, wrong), BadSeal)
                    self.assertIs(error_of(decode_frame, [9] + wrong + [0], 1), BadSeal)

    def test_no_frame_at_the_index(self):
        for at in (-1, -4, 4, 5, 10 ** 20):
            self.assertIs(error_of(decode_frame, [0, 0, 0, 7], at), BadBytes)
        self.assertIs(error_of(decode_frame, []), BadBytes)
        self.assertIs(error_of(decode_frame, [128, 0, 0, 0, 7]), BadBytes)
        self.assertIs(error_of(decode_frame, [128, 128, 128]), BadBytes)
        self.assertIs(error_of(decode_frame, [255] * 40 + [1] + [0] * 60), BadBytes)


class FramesTest(unittest.TestCase):

    def test_no_frames(self):
        for block in ([], [0], [0, 0, 0], [0, 0, 0, 8], [255, 255], [128, 0]):
            self.assertEqual(decode_frames(block), ([], 0))

    def test_written_out(self):
        block = [1, 0, 0, 0, 218, 0, 0, 0, 7]
        self.assertEqual(decode_frames(block), ([[0], []], 9))
        self.assertEqual(decode_frames(block + [0, 0, 0]), ([[0], []], 9))
        self.assertEqual(decode_frames(block[:8]), ([[0]], 5))
        self.assertEqual(decode_frames([9] + block), ([], 0))

    def test_frames_behind_one_another_cut_at_any_place(self):
        source = dice(113)
        for _ in range(40):
            blocks = some_blocks(source)
            ends = [0]
            whole = []
            for block in blocks:
                whole = whole + encode_frame(block)
                ends.append(len(whole))
            self.assertEqual(decode_frames(whole), (blocks, len(whole)))
            for cut in range(len(whole) + 1):
                part = whole[:cut]
                many = sum(end <= cut for end in ends) - 1
                self.assertEqual(decode_frames(part), (blocks[:many], ends[many]))
                self.assertEqual(part, whole[:cut])

    def test_another_last_byte(self):
        source = dice(114)
        for _ in range(30):
            blocks = some_blocks(source)
            before = sum([encode_frame(block) for block in blocks[:-1]], [])
            last = encode_frame(blocks[-1])
            for byte in range(256):
                found = decode_frames(before + last[:-1] + [byte])
                if byte == last[-1]:
                    self.assertEqual(found, (blocks, len(before) + len(last)))
                else:
                    self.assertEqual(found, (blocks[:-1], len(before)))

    def test_what_stands_behind_a_broken_frame_is_not_read(self):
        broken = [1, 0, 0, 0, 219]
        self.assertEqual(decode_frames(encode_frame([5]) + broken + encode_frame([6])), ([[5]], 5))

    def test_any_bytes(self):
        source = dice(115)
        for _ in range(400):
            block = sum([encode_frame(inner) for inner in some_blocks(source)], [])
            for _ in range(source.randrange(3)):
                block[source.randrange(len(block))] = source.randrange(256)
            self.assertEqual(decode_frames(block), plain_frames(block))

    def test_blocks_are_new(self):
        block = encode_frame([1, 2])
        decode_frame(block)[0].append(3)
        decode_frames(block)[0][0].append(3)
        self.assertEqual(decode_frames(block), ([[1, 2]], 6))


if __name__ == "__main__":
    unittest.main()
