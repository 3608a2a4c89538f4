"""Points 20 and 21: letters."""

import unittest

from meridian.errors import BadArgument, BadBytes, BadSeal
from meridian.net.letters import decode_letter, encode_letter, is_group_letter
from meridian.storage.records import encode_record
from meridian.wire.seals import seal
from meridian.wire.texts import encode_text, encode_texts
from meridian.wire.varints import encode_number, encode_value
from tests.helpers import KEYS, VALUES, dice, error_of, some_keys, some_record

FAR = 10 ** 59 + 3
FLOOR = ("floor", 300)
PREPARE = ("prepare", 1, 5, 0, ("a",), (("b", -1), ("c", None)))

# For each letter the block that is sealed.
WRITTEN = [
    (("ask_vote", 3, 2, 300), [1, 3, 2, 172, 2]),
    (("give_vote", 128), [2, 128, 1]),
    (("append", 4, 0, 0, (), 0), [3, 4, 0, 0, 0, 0]),
    (("append", 4, 7, 3, ((3, FLOOR), (4, PREPARE)), 6),
     [3, 4, 7, 3, 2, 3, 3, 1, 172, 2, 4, 15, 2, 1, 5, 0, 1, 1, 0, 2, 1, 1, 1, 1, 1, 2, 0, 6]),
    (("appended", 1, 2), [4, 1, 2]),
    (("behind", 1, 300), [5, 1, 172, 2]),
    (("ask_lease", 2, 129), [6, 2, 129, 1]),
    (("give_lease", 2, 0), [7, 2, 0]),
    (("read", 1, "ab.", 0), [8, 1, 3, 0, 1, 36, 0]),
    (("value", 1, "a", None, 4), [9, 1, 1, 0, 0, 4]),
    (("value", 1, "a", -1, 4), [9, 1, 1, 0, 1, 1, 4]),
    (("prepare", 1, 2, 3, ("a", "b"), (("c", 1), ("d", None))), [10, 1, 2, 3, 2, 1, 0, 1, 1, 2, 1, 2, 1, 2, 1, 3, 0]),
    (("prepare", 1, 0, 0, (), ()), [10, 1, 0, 0, 0, 0]),
    (("prepared", 1, 0, 300), [11, 1, 0, 172, 2]),
    (("refuse", 3), [12, 3]),
    (("commit", 1, ((0, 5), (2, 300))), [13, 1, 2, 0, 5, 2, 172, 2]),
    (("commit", 1, ()), [13, 1, 0]),
    (("outcome", 1, 0), [14, 1, 0]),
    (("query", 9), [15, 9]),
    (("told", 9, 8), [16, 9, 8]),
    (("look", 0, "z", 7), [17, 0, 1, 25, 7]),
    (("seen", 0, "/", 64), [18, 0, 1, 37, 1, 128, 1]),
    (("seen", 0, "/", None), [18, 0, 1, 37, 0]),
]

NAMES = ["ask_vote", "give_vote", "append", "appended", "behind", "ask_lease", "give_lease", "read", "value",
         "prepare", "prepared", "refuse", "commit", "outcome", "query", "told", "look", "seen"]
FORMS = ["nnn", "n", "nnnen", "nn", "nn", "nn", "nn", "nkn", "nkvn", "nnnrw", "nnn", "n", "nt", "nn", "n", "nn",
         "nkn", "nkv"]
WRONG_KEYS = ["", "A", "a b", "-", "ab_", "a,", "\xe4"]
WRONG_RECORDS = [("floor", 0), ("floor", -1), ("prepare", 0, 1, 0, (), ()), ("prepare", 1, 0, 0, (), ()),
                 ("prepare", 1, 1, -1, (), ()), ("prepare", 1, 1, 0, ("b", "a"), ()), ("prepare", 1, 1, 0, ("",), ()),
                 ("prepare", 1, 1, 0, (), (("a", 1), ("a", 1))), ("decide", 0, 5), ("decide", 1, -1), ("done", 0, 0)]


def some_item(form, source):
    """Return an item of a letter, of the kind that a character stands for."""
    number = source.choice([0, 1, 127, 128, 300, FAR])
    if form == "n":
        return number
    if form == "k":
        return source.choice(KEYS)
    if form == "v":
        return source.choice(VALUES)
    if form == "r":
        return some_keys(source)
    if form == "w":
        return tuple((key, source.choice(VALUES)) for key in some_keys(source))
    if form == "t":
        return tuple((group, source.randrange(400)) for group in sorted(source.sample(range(200), source.randrange(4))))
    return tuple((source.randrange(300), some_record(source)) for _ in range(source.randrange(4)))


def some_letter(source, code=None):
    code = source.randrange(18) if code is None else code
    return (NAMES[code],) + tuple(some_item(form, source) for form in FORMS[code])


def plain_item(form, item):
    """Write an item as point 21 says."""
    if form == "n":
        return encode_number(item)
    if form == "k":
        return encode_text(item)
    if form == "v":
        return encode_value(item)
    if form == "r":
        return encode_texts(item)
    parts = []
    for pair in item:
        if form == "w":
            parts.append(encode_text(pair[0]) + encode_value(pair[1]))
        elif form == "t":
            parts.append(encode_number(pair[0]) + encode_number(pair[1]))
        else:
            inner = encode_record(pair[1])
            parts.append(encode_number(pair[0]) + encode_number(len(inner)) + inner)
    return encode_number(len(item)) + sum(parts, [])


def plain_block(letter):
    """Put together what is sealed for a letter."""
    code = NAMES.index(letter[0])
    return [code + 1] + sum([plain_item(form, item) for form, item in zip(FORMS[code], letter[1:])], [])


def same_kinds(first, second):
    """Return whether two letters are equal and built of the same kinds of parts."""
    if type(first) is not type(second):
        return False
    if isinstance(first, tuple):
        return len(first) == len(second) and all(same_kinds(one, other) for one, other in zip(first, second))
    return first == second


def replaced(letter, at, item):
    return letter[:at] + (item,) + letter[at + 1:]


class EncodingTest(unittest.TestCase):

    def test_written_out(self):
        self.assertEqual({letter[0] for letter, _ in WRITTEN}, set(NAMES))
        for letter, inner in WRITTEN:
            self.assertEqual(encode_letter(letter), seal(inner))
            self.assertTrue(same_kinds(decode_letter(seal(inner)), letter), letter)

    def test_any_letters_there_and_back(self):
        source = dice(21)
        for code in range(18):
            for _ in range(60):
                letter = some_letter(source, code)
                block = encode_letter(letter)
                self.assertEqual(block, seal(plain_block(letter)))
                before = list(block)
                self.assertTrue(same_kinds(decode_letter(block), letter))
                self.assertEqual(block, before)

    def test_numbers_of_few_and_many_figures_at_every_place(self):
        source = dice(210)
        for code in range(18):
            for at, form in enumerate(FORMS[code], start=1):
                for number in (0, 1, 127, 128, 10 ** 18, FAR) if form == "n" else ():
                    letter = replaced(some_letter(source, code), at, number)
                    self.assertEqual(decode_letter(encode_letter(letter)), letter)
        for number in (0, FAR):
            for letter in [("commit", 1, ((number, 0),)), ("commit", 1, ((0, number),)),
                           ("append", 1, 0, 0, ((number, FLOOR),), 0)]:
                self.assertEqual(decode_letter(encode_letter(letter)), letter)

    def test_each_block_is_new(self):
        encode_letter(("refuse", 3)).append(7)
        self.assertEqual(encode_letter(("refuse", 3)), seal([12, 3]))


class WrongLettersTest(unittest.TestCase):

    def test_one_number_below_0(self):
        source = dice(211)
        for code in range(18):
            for at, form in enumerate(FORMS[code], start=1):
                for number in (-1, -2, -128, -FAR) if form == "n" else ():
                    letter = replaced(some_letter(source, code), at, number)
                    self.assertIs(error_of(encode_letter, letter), BadArgument, letter)
        for letter in [("commit", 1, ((-1, 5),)), ("commit", 1, ((1, -5),)), ("commit", 1, ((1, 5), (2, -1))),
                       ("append", 1, 0, 0, ((-1, FLOOR),), 0), ("append", 1, 0, 0, ((1, FLOOR), (-1, FLOOR)), 0)]:
            self.assertIs(error_of(encode_letter, letter), BadArgument)

    def test_keys_that_are_empty_or_strange(self):
        for key in WRONG_KEYS:
            for letter in [("read", 1, key, 0), ("value", 1, key, 5, 0), ("look", 0, key, 7), ("seen", 0, key, None)]:
                self.assertIs(error_of(encode_letter, letter), BadArgument)
            for keys in ((key,), (key, "z"), ("0", key)):
                writes = tuple((name, 1) for name in keys)
                self.assertIs(error_of(encode_letter, ("prepare", 1, 1, 0, keys, ())), BadArgument)
                self.assertIs(error_of(encode_letter, ("prepare", 1, 1, 0, (), writes)), BadArgument)

    def test_empty_keys_in_blocks(self):
        for letter in [("read", 1, "", 0), ("value", 1, "", 5, 0), ("look", 0, "", 7), ("seen", 0, "", None),
                       ("prepare", 1, 1, 0, ("",), ()), ("prepare", 1, 1, 0, (), (("", 1),))]:
            self.assertIs(error_of(decode_letter, seal(plain_block(letter))), BadBytes)

    def test_keys_and_groups_that_are_not_ascending(self):
        wrong = []
        for keys in (("a", "a"), ("b", "a"), ("a", "0"), ("a", "b", "b"), ("b", "a", "c"), ("ab", "a"), ("a", "")):
            wrong.append(("prepare", 1, 1, 0, keys, (("a", 1),)))
            wrong.append(("prepare", 1, 1, 0, ("a",), tuple((key, 1) for key in keys)))
        for groups in ((0, 0), (1, 0), (0, 1, 1), (0, 2, 1), (5, 5), (300, 2)):
            wrong.append(("commit", 1, tuple((group, 7) for group in groups)))
        for letter in wrong:
            self.assertIs(error_of(encode_letter, letter), BadArgument)
            self.assertIs(error_of(decode_letter, seal(plain_block(letter))), BadBytes)
        for letter in [("commit", 1, ((0, 7), (1, 7), (2, 6))), ("prepare", 1, 1, 0, ("0", "a", "aa"), (("0", 1),))]:
            self.assertEqual(decode_letter(encode_letter(letter)), letter)

    def test_records_that_cannot_be_encoded(self):
        for record in WRONG_RECORDS:
            for entries in (((1, record),), ((1, FLOOR), (1, record)), ((1, record), (1, FLOOR))):
                self.assertIs(error_of(encode_letter, ("append", 1, 0, 0, entries, 0)), BadArgument)


class WrongBlocksTest(unittest.TestCase):

    def test_one_changed_byte(self):
        source = dice(212)
        letters = [letter for letter, _ in WRITTEN] + [some_letter(source) for _ in range(40)]
        for letter in letters:
            block = encode_letter(letter)
            for at in range(len(block)):
                for add in (1, 2, 128, 254, 255, source.randrange(1, 256)):
                    wrong = list(block)
                    wrong[at] = (wrong[at] + add) % 256
                    self.assertIs(error_of(decode_letter, wrong), BadSeal)

    def test_blocks_that_cannot_be_opened(self):
        for block in ([], [0], [0, 0]):
            self.assertIs(error_of(decode_letter, block), BadBytes)
        for block in ([0, 0, 0], [12, 3, 0, 0, 0], [12, 3]):
            self.assertIs(error_of(decode_letter, block + [1]), BadSeal)

    def test_rightly_sealed_blocks_that_are_cut_or_too_long(self):
        source = dice(213)
        for letter in [letter for letter, _ in WRITTEN] + [some_letter(source) for _ in range(60)]:
            inner = plain_block(letter)
            for cut in range(len(inner)):
                self.assertIs(error_of(decode_letter, seal(inner[:cut])), BadBytes, letter)
            for byte in (0, 1, 127, 128, 255):
                self.assertIs(error_of(decode_letter, seal(inner + [byte])), BadBytes)

    def test_other_codes(self):
        for code in [0] + list(range(19, 256)):
            for rest in ([], [1], [1, 1], [1, 1, 1], [1, 1, 0, 0], [1, 1, 0, 0, 0]):
                self.assertIs(error_of(decode_letter, seal([code] + rest)), BadBytes)

    def test_the_code_of_another_letter(self):
        self.assertEqual(decode_letter(seal([4, 1, 2])), ("appended", 1, 2))
        self.assertEqual(decode_letter(seal([14, 1, 2])), ("outcome", 1, 2))
        for inner in ([1, 1, 2], [2, 1, 2], [3, 1, 2], [12, 1, 2], [11, 1, 2], [8, 1, 2]):
            self.assertIs(error_of(decode_letter, seal(inner)), BadBytes)

    def test_a_wrong_length_of_a_record(self):
        good = [3, 4, 7, 3, 1, 3, 3, 1, 172, 2, 6]
        self.assertEqual(decode_letter(seal(good)), ("append", 4, 7, 3, ((3, FLOOR),), 6))
        for length in (0, 1, 2, 4, 5, 6, 127, 255):
            wrong = list(good)
            wrong[6] = length
            self.assertIs(error_of(decode_letter, seal(wrong)), BadBytes)
        for inner in ([3, 4, 7, 3, 1, 3, 4, 1, 172, 2, 6, 6], [3, 4, 7, 3, 1, 3, 4, 1, 172, 2, 6],
                      [3, 4, 7, 3, 1, 3, 3, 1, 0, 0, 6], [3, 4, 7, 3, 1, 3, 2, 5, 1, 6], [3, 4, 7, 3, 1, 3, 2, 1, 0, 6]):
            self.assertIs(error_of(decode_letter, seal(inner)), BadBytes)

    def test_parts_that_cannot_be_decoded(self):
        for inner in ([12, 128, 0], [12, 128], [8, 1, 1, 38, 0], [9, 1, 1, 0, 2, 4], [9, 1, 1, 0, 1, 128, 0, 4],
                      [13, 1, 1, 0], [13, 1, 2, 0, 5], [13, 1] + encode_number(FAR) + [0, 5],
                      [10, 1, 2, 3] + encode_number(FAR), [3, 4, 7, 3] + encode_number(FAR) + [0], [10, 1, 2, 3, 0, 1, 1]):
            self.assertIs(error_of(decode_letter, seal(inner)), BadBytes)

    def test_a_block_that_is_decoded_is_the_encoding_of_what_it_gives(self):
        source = dice(214)
        kinds = {None: 0, BadBytes: 0}
        for _ in range(4000):
            inner = plain_block(some_letter(source))
            inner[source.randrange(len(inner))] = source.choice([0, 1, 2, 3, 9, 12, 18, 38, 128, 255])
            error = error_of(decode_letter, seal(inner))
            if error is None:
                self.assertEqual(encode_letter(decode_letter(seal(inner))), seal(inner))
            kinds[error] += 1
        self.assertTrue(min(kinds.values()) > 300)


class NamesTest(unittest.TestCase):

    def test_group_letters(self):
        source = dice(215)
        for code in range(18):
            self.assertIs(is_group_letter(some_letter(source, code)), code < 7)


if __name__ == "__main__":
    unittest.main()
