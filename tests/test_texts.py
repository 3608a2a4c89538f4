"""Point 6: texts and lists of texts."""

import unittest

from meridian.errors import BadArgument, BadBytes
from meridian.wire.texts import ALPHABET, decode_text, decode_texts, encode_text, encode_texts
from tests.helpers import dice, error_of

TEXTS = ["", "a", "/", "ab.", "z09./", "a" * 127, "b9" * 64, "./" * 100, ALPHABET, ALPHABET * 3]
STRANGERS = ["A", "Z", " ", "-", "_", ",", ":", "\n", "\0", "\xe4", "\u0430"]


def random_text(source):
    return "".join(source.choice(ALPHABET) for _ in range(source.randrange(6)))


def random_texts(source):
    return [random_text(source) for _ in range(source.randrange(6))]


class AlphabetTest(unittest.TestCase):

    def test_characters_and_order(self):
        letters = "".join(chr(ord("a") + k) for k in range(26))
        figures = "".join(chr(ord("0") + k) for k in range(10))
        self.assertEqual(ALPHABET, letters + figures + "./")


class TextTest(unittest.TestCase):

    def test_written_out(self):
        self.assertEqual(encode_text(""), [0])
        self.assertEqual(encode_text("ab."), [3, 0, 1, 36])
        self.assertEqual(encode_text("z09/"), [4, 25, 26, 35, 37])
        self.assertEqual(encode_text("c" * 128), [128, 1] + [2] * 128)

    def test_every_character(self):
        for code, character in enumerate(ALPHABET):
            self.assertEqual(encode_text(character), [1, code])
            self.assertEqual(decode_text([1, code]), (character, 2))

    def test_there_and_back_between_other_bytes(self):
        for text in TEXTS:
            block = encode_text(text)
            self.assertEqual(decode_text(block), (text, len(block)))
            for before in ([], [5], [255, 40]):
                for behind in ([], [0], [255, 38]):
                    whole = before + block + behind
                    again = list(whole)
                    self.assertEqual(decode_text(whole, len(before)), (text, len(before) + len(block)))
                    self.assertEqual(whole, again)

    def test_a_character_out_of_the_alphabet(self):
        for stranger in STRANGERS:
            for text in ("", "a", "ab.", "a" * 130):
                for at in {0, len(text) // 2, len(text)}:
                    self.assertIs(error_of(encode_text, text[:at] + stranger + text[at:]), BadArgument)

    def test_cut_blocks(self):
        for text in TEXTS:
            block = encode_text(text)
            for cut in range(len(block)):
                self.assertIs(error_of(decode_text, block[:cut]), BadBytes)
                self.assertIs(error_of(decode_text, [1, 1] + block[:cut], 2), BadBytes)

    def test_codes_that_are_too_great(self):
        for code in range(38, 256):
            for at in range(3):
                block = [3, 0, 1, 37, 5]
                block[1 + at] = code
                self.assertIs(error_of(decode_text, block), BadBytes)
        self.assertEqual(decode_text([1, 37, 38]), ("/", 2))

    def test_lengths_that_cannot_be_decoded(self):
        for block in ([], [128], [128, 0], [131, 0, 1, 1, 1], [255, 255, 255]):
            self.assertIs(error_of(decode_text, block), BadBytes)
            self.assertIs(error_of(decode_texts, block), BadBytes)

    def test_an_index_out_of_the_block(self):
        for decode in (decode_text, decode_texts):
            for at in (-1, -3, 3, 4, 10 ** 20):
                self.assertIs(error_of(decode, [0, 0, 0], at), BadBytes)

    def test_a_length_beyond_all_blocks(self):
        self.assertIs(error_of(decode_text, [255] * 30 + [1] + [0] * 50), BadBytes)
        self.assertIs(error_of(decode_texts, [255] * 30 + [1] + [0] * 50), BadBytes)


class TextsTest(unittest.TestCase):

    def test_written_out(self):
        self.assertEqual(encode_texts([]), [0])
        self.assertEqual(encode_texts([""]), [1, 0])
        self.assertEqual(encode_texts(["ab.", "", "/"]), [3, 3, 0, 1, 36, 0, 1, 37])
        self.assertEqual(decode_texts([0]), ((), 1))
        self.assertEqual(decode_texts([2, 1, 0, 0]), (("a", ""), 4))

    def test_lists_and_tuples(self):
        source = dice(6)
        for texts in [TEXTS[:k] for k in range(6)] + [random_texts(source) for _ in range(60)]:
            given = list(texts)
            block = encode_texts(given)
            self.assertEqual(given, texts)
            self.assertEqual(block, [len(texts)] + sum([encode_text(text) for text in texts], []))
            self.assertEqual(encode_texts(tuple(texts)), block)
            for before in ([], [9, 255]):
                for behind in ([], [1]):
                    found = decode_texts(before + block + behind, len(before))
                    self.assertEqual(found, (tuple(texts), len(before) + len(block)))
                    self.assertIsInstance(found[0], tuple)

    def test_many_texts(self):
        texts = ["a", "bc"] * 100
        self.assertEqual(encode_texts(texts)[:2], [200, 1])
        self.assertEqual(decode_texts(encode_texts(texts)), (tuple(texts), 2 + 500))

    def test_a_character_out_of_the_alphabet_at_any_place(self):
        for stranger in STRANGERS:
            for at in range(3):
                texts = ["ab", "", "c"]
                texts[at] = texts[at] + stranger
                self.assertIs(error_of(encode_texts, texts), BadArgument)
                self.assertIs(error_of(encode_texts, tuple(texts)), BadArgument)

    def test_cut_blocks(self):
        source = dice(61)
        for texts in [random_texts(source) for _ in range(40)] + [TEXTS]:
            block = encode_texts(texts)
            for cut in range(len(block)):
                self.assertIs(error_of(decode_texts, block[:cut]), BadBytes)

    def test_codes_that_are_too_great_at_any_place(self):
        block = encode_texts(["ab", "", "c9/"])
        for at in (2, 3, 6, 7, 8):
            for code in range(38, 256):
                wrong = list(block)
                wrong[at] = code
                self.assertIs(error_of(decode_texts, wrong), BadBytes)


if __name__ == "__main__":
    unittest.main()
