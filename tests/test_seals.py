"""Point 7: checksums and sealed blocks."""

import unittest

from meridian.errors import BadBytes, BadSeal
from meridian.wire.seals import checksum, open_seal, seal
from tests.helpers import dice, error_of, plain_checksum


def blocks():
    source = dice(7)
    found = [[], [0], [255], list(range(200)), list(range(56, 256)), [0] * 9, [255] * 200]
    for size in range(10):
        found = found + [[source.randrange(256) for _ in range(size)] for _ in range(4)]
    return found + [[byte] for byte in range(256)]


class SealsTest(unittest.TestCase):

    def test_written_out(self):
        self.assertEqual(checksum([]), 7)
        self.assertEqual(checksum([0]), 218)
        self.assertEqual(checksum([255]), 31 * 7 + 256)
        self.assertEqual(checksum([0, 0]), 31 * 218 + 1)
        self.assertEqual(seal([]), [0, 0, 7])
        self.assertEqual(seal([0]), [0, 0, 0, 218])
        self.assertEqual(seal([0, 0]), [0, 0, 0, 26, 103])
        self.assertEqual(checksum([49, 178, 7]), 4 * 65536)
        self.assertEqual(seal([49, 178, 7]), [49, 178, 7, 4, 0, 0])
        self.assertEqual(seal([49, 178, 6]), [49, 178, 6, 3, 255, 255])

    def test_checksums(self):
        for block in blocks():
            before = list(block)
            self.assertEqual(checksum(block), plain_checksum(block))
            self.assertLess(checksum(block), 16000057)
            self.assertEqual(block, before)

    def test_sealing_appends_three_bytes_most_significant_first(self):
        for block in blocks():
            before = list(block)
            sealed = seal(block)
            total = plain_checksum(block)
            self.assertEqual(sealed, before + list(total.to_bytes(3, "big")))
            sealed.append(1)
            self.assertEqual(block, before)

    def test_opening_returns_the_block(self):
        for block in blocks():
            sealed = seal(block)
            before = list(sealed)
            found = open_seal(sealed)
            self.assertEqual(found, block)
            found.append(1)
            self.assertEqual(sealed, before)
            self.assertEqual(open_seal(sealed), block)

    def test_every_single_byte_that_is_replaced_is_found(self):
        for block in ([], [0], [255, 0], list(range(9)), [255] * 5):
            sealed = seal(block)
            for at in range(len(sealed)):
                for byte in range(256):
                    wrong = sealed[:at] + [byte] + sealed[at + 1:]
                    self.assertIs(error_of(open_seal, wrong), None if byte == sealed[at] else BadSeal)

    def test_a_byte_that_is_replaced_in_a_long_block(self):
        sealed = seal(list(range(200)))
        for at in range(len(sealed)):
            for add in (1, 127, 128, 255):
                wrong = list(sealed)
                wrong[at] = (wrong[at] + add) % 256
                before = list(wrong)
                self.assertIs(error_of(open_seal, wrong), BadSeal)
                self.assertEqual(wrong, before)

    def test_short_blocks_have_no_seal_at_all(self):
        for block in ([], [0], [7], [0, 7], [255, 255]):
            self.assertIs(error_of(open_seal, block), BadBytes)
        self.assertIs(error_of(open_seal, [0, 0, 8]), BadSeal)
        self.assertEqual(open_seal([0, 0, 7]), [])


if __name__ == "__main__":
    unittest.main()
