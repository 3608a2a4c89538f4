"""The records of a log, and their blocks (points 14 and 15)."""

from meridian.errors import BadArgument, BadBytes
from meridian.wire.rows import decode_keys, decode_writes, encode_keys, encode_writes
from meridian.wire.varints import decode_number, encode_number

# The byte for a kind is its index here plus 1.
KINDS = ("floor", "prepare", "decide", "done")

# The least number that may stand at each of the places behind the kind.
LEAST = {"floor": (1,), "prepare": (1, 1, 0), "decide": (1, 0), "done": (1, 0)}


def encode_record(record):
    """Return the block of a record."""
    kind = record[0]
    block = [KINDS.index(kind) + 1]
    for least, number in zip(LEAST[kind], record[1:]):
        if number < least:
            raise BadArgument("a number of the record is out of its range")
        block.extend(encode_number(number))
    if kind == "prepare":
        block.extend(encode_keys(record[4]))
        block.extend(encode_writes(record[5]))
    return block


def decode_record(block):
    """Return the record whose block this is."""
    kind = _decode_kind(block)
    items = [kind]
    behind = 1
    for least in LEAST[kind]:
        number, behind = decode_number(block, behind)
        if number < least:
            raise BadBytes("a number of the record is out of its range")
        items.append(number)
    if kind == "prepare":
        reads, behind = decode_keys(block, behind)
        writes, behind = decode_writes(block, behind)
        items.extend([reads, writes])
    if behind < len(block):
        raise BadBytes("there are bytes behind the record")
    return tuple(items)


def record_time(record):
    """Return the time of a record."""
    if record[0] == "floor":
        return record[1]
    return record[2]


def record_keys(record):
    """Return an ascending tuple of the keys that a prepare record reads or writes; () for other records."""
    if record[0] != "prepare":
        return ()
    keys = list(record[4]) + [key for key, _ in record[5]]
    return tuple(sorted(set(keys)))


def latest_time(records):
    """Return the greatest time of the records in a list; 0 for the empty list."""
    return max([record_time(record) for record in records], default=0)


def _decode_kind(block):
    if len(block) == 0 or block[0] < 1 or block[0] > len(KINDS):
        raise BadBytes("the block does not begin with the byte for a kind of record")
    return KINDS[block[0] - 1]
