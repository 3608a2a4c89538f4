"""Points 4 and 5: numbers, signed numbers, flags and values as blocks."""

import unittest

from meridian.errors import BadArgument, BadBytes
from meridian.wire.varints import (decode_flag, decode_number, decode_signed, decode_value,
                                   encode_flag, encode_number, encode_signed, encode_value)
from tests.helpers import EDGE_NUMBERS, dice, error_of, far_numbers

DECODERS = (decode_number, decode_signed, decode_flag, decode_value)


def digits(number):
    """Return the encoding of point 4, worked out from the binary digits."""
    block = []
    while True:
        block.append(number & 127)
        number >>= 7
        if number == 0:
            return [byte | 128 for byte in block[:-1]] + block[-1:]


def numbers():
    source = dice(4)
    return EDGE_NUMBERS + far_numbers(source) + [source.randrange(10 ** 18) for _ in range(40)]


class NumbersTest(unittest.TestCase):

    def test_written_out(self):
        for number, block in [(0, [0]), (1, [1]), (127, [127]), (128, [128, 1]), (129, [129, 1]),
                              (300, [172, 2]), (16383, [255, 127]), (16384, [128, 128, 1]),
                              (16385, [129, 128, 1]), (2 ** 63, [128] * 9 + [1])]:
            self.assertEqual(encode_number(number), block)
            self.assertEqual(decode_number(block), (number, len(block)))

    def test_every_number_to_three_bytes_there_and_back(self):
        for number in list(range(1000)) + list(range(16000, 17000)) + list(range(2 ** 21 - 9, 2 ** 21 + 9)):
            block = encode_number(number)
            self.assertEqual(block, digits(number))
            self.assertEqual(decode_number(block, 0), (number, len(block)))

    def test_far_numbers_there_and_back(self):
        for number in numbers():
            block = encode_number(number)
            self.assertEqual(block, digits(number))
            self.assertEqual(decode_number(block), (number, len(block)))

    def test_negative_numbers_are_refused(self):
        for number in (-1, -2, -127, -128, -129, -10 ** 18, -10 ** 60):
            self.assertIs(error_of(encode_number, number), BadArgument)

    def test_numbers_behind_one_another(self):
        source = dice(41)
        for _ in range(30):
            told = [source.choice(numbers()) for _ in range(source.randrange(1, 6))]
            block = [source.randrange(256) for _ in range(source.randrange(5))]
            at = len(block)
            for number in told:
                block = block + encode_number(number)
            before = list(block)
            for number in told:
                found, at = decode_number(block, at)
                self.assertEqual(found, number)
            self.assertEqual(at, len(block))
            self.assertEqual(block, before)

    def test_bytes_behind_a_number_are_not_read(self):
        for rest in ([0], [255], [128, 128], [1, 2, 3]):
            self.assertEqual(decode_number([172, 2] + rest), (300, 2))
            self.assertEqual(decode_number([9, 0] + rest, 1), (0, 2))

    def test_a_cut_number(self):
        for number in numbers():
            block = encode_number(number)
            for cut in range(len(block)):
                self.assertIs(error_of(decode_number, block[:cut]), BadBytes)
                self.assertIs(error_of(decode_number, [7, 7] + block[:cut], 2), BadBytes)

    def test_an_encoding_that_is_not_as_short_as_possible(self):
        for block in ([128, 0], [255, 0], [128, 128, 0], [172, 130, 0], [129, 128, 128, 0]):
            self.assertIs(error_of(decode_number, block), BadBytes)
            self.assertIs(error_of(decode_number, block + [1, 1]), BadBytes)
            self.assertIs(error_of(decode_number, [1] + block, 1), BadBytes)
        self.assertEqual(decode_number([0, 0]), (0, 1))
        self.assertEqual(decode_number([128, 128, 1]), (16384, 3))

    def test_the_index(self):
        self.assertEqual(decode_number([5, 172, 2], 1), (300, 3))
        self.assertEqual(decode_number([5, 172, 2], 2), (2, 3))
        self.assertEqual(decode_number([5, 172, 2], at=0), (5, 1))


class IndexTest(unittest.TestCase):

    def test_an_index_outside_of_the_block(self):
        for decode in DECODERS:
            for block in ([], [0], [1, 1], [0, 0, 0]):
                size = len(block)
                for at in (-1, -2, -size - 1, -10 ** 30, size, size + 1, 10 ** 30):
                    self.assertIs(error_of(decode, block, at), BadBytes)

    def test_the_block_stays(self):
        for decode in DECODERS:
            for block in ([1, 172, 2], [0, 0, 0], [2, 128, 0], [1, 255], [255]):
                before = list(block)
                for at in range(-1, len(block) + 1):
                    error_of(decode, block, at)
                    self.assertEqual(block, before)


class SignedTest(unittest.TestCase):

    def test_written_out(self):
        for number, block in [(0, [0]), (-1, [1]), (1, [2]), (-2, [3]), (2, [4]), (63, [126]), (-64, [127]),
                              (64, [128, 1]), (-65, [129, 1]), (150, [172, 2]), (8192, [128, 128, 1])]:
            self.assertEqual(encode_signed(number), block)
            self.assertEqual(decode_signed(block), (number, len(block)))

    def test_both_signs_there_and_back(self):
        for number in list(range(-300, 301)) + numbers() + [-number for number in numbers()]:
            block = encode_signed(number)
            self.assertEqual(block, digits(2 * number if number >= 0 else -2 * number - 1))
            self.assertEqual(decode_signed([3, 3] + block + [200, 0], 2), (number, 2 + len(block)))

    def test_every_encoded_number_is_that_of_one_signed_number(self):
        found = [decode_signed(encode_number(number))[0] for number in range(2000)]
        self.assertEqual(sorted(found), list(range(-1000, 1000)))

    def test_wrong_blocks(self):
        for block in ([], [128], [128, 0], [255, 255], [129, 128, 0]):
            self.assertIs(error_of(decode_signed, block), BadBytes)
            self.assertIs(error_of(decode_signed, [4] + block, 1), BadBytes)


class FlagsTest(unittest.TestCase):

    def test_both_flags(self):
        self.assertEqual(encode_flag(True), [1])
        self.assertEqual(encode_flag(False), [0])
        for flag in (True, False):
            for before in ([], [9], [255, 0, 1]):
                for behind in ([], [0], [1], [255]):
                    found = decode_flag(before + encode_flag(flag) + behind, len(before))
                    self.assertEqual(found, (flag, len(before) + 1))
                    self.assertIs(found[0], flag)

    def test_other_first_bytes(self):
        for byte in range(2, 256):
            self.assertIs(error_of(decode_flag, [byte]), BadBytes)
            self.assertIs(error_of(decode_flag, [0, byte, 1], 1), BadBytes)


class ValuesTest(unittest.TestCase):

    def test_written_out(self):
        for value, block in [(None, [0]), (0, [1, 0]), (-1, [1, 1]), (1, [1, 2]), (150, [1, 172, 2])]:
            self.assertEqual(encode_value(value), block)
            self.assertEqual(decode_value(block), (value, len(block)))

    def test_there_and_back_between_other_bytes(self):
        for value in [None] + numbers() + [-number for number in numbers()]:
            for before in ([], [0], [200, 1]):
                for behind in ([], [0], [255]):
                    block = encode_value(value)
                    found = decode_value(before + block + behind, len(before))
                    self.assertEqual(found, (value, len(before) + len(block)))

    def test_other_first_bytes(self):
        for byte in range(2, 256):
            self.assertIs(error_of(decode_value, [byte, 0]), BadBytes)
            self.assertIs(error_of(decode_value, [1, byte, 0], 1), BadBytes)

    def test_cut_values(self):
        for value in [None] + numbers():
            block = encode_value(value)
            for cut in range(len(block)):
                self.assertIs(error_of(decode_value, block[:cut]), BadBytes)
                self.assertIs(error_of(decode_value, [1] + block[:cut], 1), BadBytes)

    def test_a_signed_number_that_cannot_be_decoded(self):
        for block in ([1], [1, 128], [1, 128, 0], [1, 255, 128, 0]):
            self.assertIs(error_of(decode_value, block), BadBytes)


class FreshTest(unittest.TestCase):

    def test_each_block_is_new(self):
        for call, what in ((encode_number, 5), (encode_signed, -5), (encode_flag, True), (encode_flag, False),
                           (encode_value, None), (encode_value, 7)):
            first = call(what)
            before = list(first)
            first.append(1)
            self.assertEqual(call(what), before)


if __name__ == "__main__":
    unittest.main()
