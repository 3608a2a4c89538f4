"""Keys, ascending keys, and pairs with ascending keys, as blocks (points 15, 21 and 57)."""

from meridian.errors import BadArgument, BadBytes
from meridian.wire.texts import decode_text, decode_texts, encode_text, encode_texts
from meridian.wire.varints import (
    decode_number, decode_signed, decode_value, encode_number, encode_signed, encode_value)


def encode_key(key):
    """Return the block of a key."""
    if key == "":
        raise BadArgument("a key must not be empty")
    return encode_text(key)


def decode_key(block, at):
    """Return the key whose encoding begins at an index, and the index behind it."""
    key, behind = decode_text(block, at)
    if key == "":
        raise BadBytes("a key is empty")
    return key, behind


def encode_keys(keys):
    """Return the block of a tuple of ascending keys."""
    if not _are_ascending(keys):
        raise BadArgument("the keys must be ascending and not empty")
    return encode_texts(keys)


def decode_keys(block, at):
    """Return the tuple of the keys whose encoding begins at an index, and the index behind it."""
    keys, behind = decode_texts(block, at)
    if not _are_ascending(keys):
        raise BadBytes("the keys are not ascending, or one of them is empty")
    return keys, behind


def encode_writes(writes):
    """Return the block of a tuple of pairs (key, value) with ascending keys."""
    if not _are_ascending([key for key, _ in writes]):
        raise BadArgument("the keys of the writes must be ascending and not empty")
    block = encode_number(len(writes))
    for key, value in writes:
        block.extend(encode_text(key))
        block.extend(encode_value(value))
    return block


def decode_writes(block, at):
    """Return the tuple of the pairs whose encoding begins at an index, and the index behind it."""
    many, behind = decode_number(block, at)
    writes = []
    while len(writes) < many:
        key, behind = decode_text(block, behind)
        value, behind = decode_value(block, behind)
        writes.append((key, value))
    if not _are_ascending([key for key, _ in writes]):
        raise BadBytes("the keys of the writes are not ascending, or one of them is empty")
    return tuple(writes), behind


def encode_rows(rows):
    """Return the block of a tuple of pairs (key, number) with ascending keys."""
    if not _are_ascending([key for key, _ in rows]):
        raise BadArgument("the keys of the rows must be ascending and not empty")
    block = encode_number(len(rows))
    for key, number in rows:
        block.extend(encode_text(key))
        block.extend(encode_signed(number))
    return block


def decode_rows(block, at):
    """Return the tuple of the rows whose encoding begins at an index, and the index behind it."""
    many, behind = decode_number(block, at)
    rows = []
    while len(rows) < many:
        key, behind = decode_text(block, behind)
        number, behind = decode_signed(block, behind)
        rows.append((key, number))
    if not _are_ascending([key for key, _ in rows]):
        raise BadBytes("the keys of the rows are not ascending, or one of them is empty")
    return tuple(rows), behind


def _are_ascending(keys):
    """Return whether the keys are ascending and none of them is empty."""
    previous = ""
    for key in keys:
        # The empty text is less than every key, so an empty key at the first place is found here, too.
        if key <= previous:
            return False
        previous = key
    return True
