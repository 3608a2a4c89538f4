"""Texts and lists of texts as blocks (point 6)."""

from meridian.errors import BadArgument, BadBytes
from meridian.wire.varints import decode_number, encode_number

ALPHABET = "abcdefghijklmnopqrstuvwxyz0123456789./"


def encode_text(text):
    """Return the block of a text."""
    block = encode_number(len(text))
    for character in text:
        code = ALPHABET.find(character)
        if code < 0:
            raise BadArgument("a text has a character that is not in the alphabet")
        block.append(code)
    return block


def decode_text(block, at=0):
    """Return the text whose encoding begins at an index, and the index behind it."""
    length, start = decode_number(block, at)
    behind = start + length
    if behind > len(block):
        raise BadBytes("the block ends before the text is complete")
    codes = block[start:behind]
    for code in codes:
        if code >= len(ALPHABET):
            raise BadBytes("a byte is not the code of a character")
    return "".join([ALPHABET[code] for code in codes]), behind


def encode_texts(texts):
    """Return the block of a list or tuple of texts."""
    block = encode_number(len(texts))
    for text in texts:
        block.extend(encode_text(text))
    return block


def decode_texts(block, at=0):
    """Return the tuple of the texts whose list begins at an index, and the index behind it."""
    many, behind = decode_number(block, at)
    texts = []
    while len(texts) < many:
        text, behind = decode_text(block, behind)
        texts.append(text)
    return tuple(texts), behind
