"""Points 14 and 15: records."""

import unittest

from meridian.errors import BadArgument, BadBytes
from meridian.storage.records import decode_record, encode_record, latest_time, record_keys, record_time
from meridian.wire.texts import encode_text, encode_texts
from meridian.wire.varints import encode_number, encode_value
from tests.helpers import KEYS, VALUES, dice, error_of, some_record

FAR = 10 ** 59 + 3
WRITTEN = [
    (("floor", 300), [1, 172, 2]),
    (("floor", 1), [1, 1]),
    (("prepare", 1, 5, 0, ("a",), (("b", -1), ("c", None))), [2, 1, 5, 0, 1, 1, 0, 2, 1, 1, 1, 1, 1, 2, 0]),
    (("prepare", 1, 1, 0, (), ()), [2, 1, 1, 0, 0, 0]),
    (("prepare", 128, 129, 130, ("a", "b"), (("a", 64),)), [2, 128, 1, 129, 1, 130, 1, 2, 1, 0, 1, 1, 1, 1, 0, 1, 128, 1]),
    (("decide", 1, 0), [3, 1, 0]),
    (("decide", 7, 300), [3, 7, 172, 2]),
    (("done", 1, 0), [4, 1, 0]),
    (("done", 300, 1), [4, 172, 2, 1]),
]
WRONG_KEYS = ["", "A", "a b", "-", "ab_", "a,", "\xe4"]


def plain_block(record):
    """Put a record's block together as point 15 says."""
    kinds = {"floor": 1, "prepare": 2, "decide": 3, "done": 4}
    numbers = record[1:4] if record[0] == "prepare" else record[1:]
    block = [kinds[record[0]]] + sum([encode_number(number) for number in numbers], [])
    if record[0] == "prepare":
        block = block + encode_texts(record[4]) + encode_number(len(record[5]))
        for key, value in record[5]:
            block = block + encode_text(key) + encode_value(value)
    return block


def with_keys(keys):
    """Return two prepare records, one of which reads the keys and one of which writes them."""
    keys = tuple(keys)
    return (("prepare", 3, 4, 5, keys, (("a", 1),)), ("prepare", 3, 4, 5, ("a",), tuple((key, None) for key in keys)))


class EncodingTest(unittest.TestCase):

    def test_written_out(self):
        for record, block in WRITTEN:
            self.assertEqual(encode_record(record), block)
            self.assertEqual(decode_record(block), record)

    def test_any_records_there_and_back(self):
        source = dice(15)
        for _ in range(600):
            record = some_record(source)
            block = encode_record(record)
            self.assertEqual(block, plain_block(record))
            before = list(block)
            self.assertEqual(decode_record(block), record)
            self.assertEqual(block, before)

    def test_values_of_both_signs(self):
        for value in VALUES:
            record = ("prepare", 1, 1, 0, (), (("a", value), ("b", None), ("c", value)))
            self.assertEqual(encode_record(record), plain_block(record))
            self.assertEqual(decode_record(plain_block(record)), record)

    def test_tuples_come_back(self):
        found = decode_record([2, 1, 5, 0, 1, 1, 0, 2, 1, 1, 1, 1, 1, 2, 0])
        for part in (found, found[4], found[5], found[5][0]):
            self.assertIsInstance(part, tuple)


class RangesTest(unittest.TestCase):

    def test_numbers_at_the_ends_of_their_ranges(self):
        for record in [("floor", 1), ("floor", FAR), ("prepare", 1, 1, 0, (), ()), ("prepare", FAR, FAR, FAR, (), ()),
                       ("decide", 1, 0), ("decide", FAR, FAR), ("done", 1, 0), ("done", FAR, FAR)]:
            self.assertEqual(decode_record(encode_record(record)), record)

    def test_numbers_below_their_ranges(self):
        for least, record in [((1,), ("floor", 5)), ((1, 1, 0), ("prepare", 5, 5, 5, ("a",), (("a", 1),))),
                              ((1, 0), ("decide", 5, 5)), ((1, 0), ("done", 5, 5))]:
            for place, low in enumerate(least, start=1):
                for number in (low - 1, -1, -2, -128, -FAR):
                    wrong = record[:place] + (number,) + record[place + 1:]
                    self.assertIs(error_of(encode_record, wrong), BadArgument)
                    if number >= 0:
                        self.assertIs(error_of(decode_record, plain_block(wrong)), BadBytes)

    def test_keys_that_are_empty_or_strange(self):
        for key in WRONG_KEYS:
            for keys in ((key,), (key, "z"), ("0", key), ("0", key, "z")):
                for record in with_keys(keys):
                    self.assertIs(error_of(encode_record, record), BadArgument)

    def test_keys_that_are_not_ascending(self):
        for keys in (("a", "a"), ("b", "a"), ("ab", "a"), ("a", "0"), ("0", "/"), ("a", "b", "b"), ("a", "c", "b"),
                     ("b", "a", "c"), ("b", "a"), ("a", "b", "a"), ("",), ("", "a"), ("a", "")):
            for record in with_keys(keys):
                self.assertIs(error_of(encode_record, record), BadArgument)
                self.assertIs(error_of(decode_record, plain_block(record)), BadBytes)
        for keys in ((), ("a",), ("a", "b"), (".", "/", "0", "9", "a", "aa", "ab", "b", "z")):
            for record in with_keys(keys):
                self.assertEqual(decode_record(encode_record(record)), record)


class WrongBlocksTest(unittest.TestCase):

    def test_cut_blocks_and_one_byte_more(self):
        source = dice(151)
        for record in [record for record, _ in WRITTEN] + [some_record(source) for _ in range(100)]:
            block = encode_record(record)
            for cut in range(len(block)):
                self.assertIs(error_of(decode_record, block[:cut]), BadBytes)
            for byte in (0, 1, 127, 128, 255):
                self.assertIs(error_of(decode_record, block + [byte]), BadBytes)

    def test_other_kinds(self):
        for byte in [0] + list(range(5, 256)):
            for rest in ([], [1], [1, 1], [1, 1, 0, 0, 0]):
                self.assertIs(error_of(decode_record, [byte] + rest), BadBytes)

    def test_the_kind_of_another_record(self):
        self.assertEqual(decode_record([3, 1, 1]), ("decide", 1, 1))
        self.assertEqual(decode_record([4, 1, 1]), ("done", 1, 1))
        for block in ([1, 1, 1], [2, 1, 1], [3, 1], [4, 1], [1, 1, 1, 0, 0, 0], [3, 1, 1, 0, 0, 0]):
            self.assertIs(error_of(decode_record, block), BadBytes)

    def test_numbers_texts_and_values_that_cannot_be_decoded(self):
        good = [2, 1, 5, 0, 1, 1, 0, 1, 1, 1, 1, 1]
        self.assertEqual(decode_record(good), ("prepare", 1, 5, 0, ("a",), (("b", -1),)))
        for at, byte in [(1, 128), (2, 255), (3, 128), (4, 2), (5, 2), (6, 38), (7, 2), (8, 2), (9, 38), (10, 2),
                         (10, 255), (11, 128), (4, 255), (7, 255)]:
            wrong = list(good)
            wrong[at] = byte
            self.assertIs(error_of(decode_record, wrong), BadBytes)
        self.assertIs(error_of(decode_record, [1, 129, 0]), BadBytes)

    def test_a_block_that_is_decoded_is_the_encoding_of_what_it_gives(self):
        source = dice(152)
        kinds = {None: 0, BadBytes: 0}
        for _ in range(3000):
            block = encode_record(some_record(source))
            block[source.randrange(len(block))] = source.choice([0, 1, 2, 3, 4, 5, 38, 128, 255])
            error = error_of(decode_record, block)
            if error is None:
                self.assertEqual(encode_record(decode_record(block)), block)
            kinds[error] += 1
        self.assertTrue(min(kinds.values()) > 100)


class PartsTest(unittest.TestCase):

    def test_times(self):
        for record, time in [(("floor", 300), 300), (("prepare", 9, 5, 7, ("a",), (("b", 3),)), 5),
                             (("decide", 9, 0), 0), (("decide", 9, 4), 4), (("done", 9, FAR), FAR)]:
            self.assertEqual(record_time(record), time)

    def test_keys(self):
        for reads, writes, keys in [((), (), ()), (("a", "c"), (("b", 1), ("c", None)), ("a", "b", "c")),
                                    ((), (("a", 0), ("z", None)), ("a", "z")), (("/", "a"), (), ("/", "a")),
                                    (("a",), (("a", 5),), ("a",)), (("b",), (("/", 5), ("c", 1)), ("/", "b", "c"))]:
            record = ("prepare", 1, 2, 3, reads, writes)
            found = record_keys(record)
            self.assertEqual(found, keys)
            self.assertIsInstance(found, tuple)
        for record in (("floor", 3), ("decide", 1, 2), ("done", 1, 0)):
            self.assertEqual(record_keys(record), ())

    def test_keys_of_any_records(self):
        source = dice(153)
        for _ in range(200):
            record = some_record(source)
            wanted = set()
            if record[0] == "prepare":
                wanted = set(record[4]) | {key for key, _ in record[5]}
            self.assertEqual(record_keys(record), tuple(sorted(wanted)))

    def test_latest_time(self):
        self.assertEqual(latest_time([]), 0)
        self.assertEqual(latest_time([("decide", 5, 0)]), 0)
        self.assertEqual(latest_time([("floor", 4)]), 4)
        records = [("floor", 4), ("prepare", 90, 6, 50, ("a",), (("b", 80),)), ("done", 70, 5), ("decide", 60, 0)]
        before = list(records)
        self.assertEqual(latest_time(records), 6)
        self.assertEqual(latest_time(records[::-1]), 6)
        self.assertEqual(records, before)
        source = dice(154)
        for _ in range(100):
            records = [some_record(source) for _ in range(source.randrange(6))]
            self.assertEqual(latest_time(records), max([record_time(record) for record in records] + [0]))

    def test_every_key_that_the_tests_use_is_taken(self):
        self.assertEqual(decode_record(encode_record(("prepare", 1, 1, 0, tuple(sorted(KEYS)), ())))[4],
                         tuple(sorted(KEYS)))


if __name__ == "__main__":
    unittest.main()
