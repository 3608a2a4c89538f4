"""The letters that replicas, services and clients exchange, as blocks (points 20 and 21)."""

from meridian.errors import BadArgument, BadBytes
from meridian.storage.records import decode_record, encode_record
from meridian.wire.rows import decode_key, decode_keys, decode_writes, encode_key, encode_keys, encode_writes
from meridian.wire.seals import open_seal, seal
from meridian.wire.varints import decode_number, decode_value, encode_number, encode_value

# The code of a letter is the index of its name here plus 1.
NAMES = (
    "ask_vote", "give_vote", "append", "appended", "behind", "ask_lease", "give_lease",
    "read", "value", "prepare", "prepared", "refuse", "commit", "outcome", "query", "told", "look", "seen",
)

# The first so many of the letters are exchanged by the replicas of one group.
GROUP_LETTERS = 7

# The kinds of the items that stand behind the name.
FORMS = {
    "ask_vote": ("number", "number", "number"),
    "give_vote": ("number",),
    "append": ("number", "number", "number", "entries", "number"),
    "appended": ("number", "number"),
    "behind": ("number", "number"),
    "ask_lease": ("number", "number"),
    "give_lease": ("number", "number"),
    "read": ("number", "key", "number"),
    "value": ("number", "key", "value", "number"),
    "prepare": ("number", "number", "number", "keys", "writes"),
    "prepared": ("number", "number", "number"),
    "refuse": ("number",),
    "commit": ("number", "times"),
    "outcome": ("number", "number"),
    "query": ("number",),
    "told": ("number", "number"),
    "look": ("number", "key", "number"),
    "seen": ("number", "key", "value"),
}


def is_group_letter(letter):
    """Return whether replicas of one group exchange letters of this name."""
    return NAMES.index(letter[0]) < GROUP_LETTERS


def encode_letter(letter):
    """Return the block of a letter."""
    name = letter[0]
    block = [NAMES.index(name) + 1]
    for kind, item in zip(FORMS[name], letter[1:]):
        block.extend(_encode_item(kind, item))
    return seal(block)


def decode_letter(block):
    """Return the letter whose block this is."""
    inner = open_seal(block)
    if len(inner) == 0 or inner[0] < 1 or inner[0] > len(NAMES):
        raise BadBytes("the block does not begin with the code of a letter")
    name = NAMES[inner[0] - 1]
    items = [name]
    behind = 1
    for kind in FORMS[name]:
        item, behind = _decode_item(kind, inner, behind)
        items.append(item)
    if behind < len(inner):
        raise BadBytes("there are bytes behind the letter")
    return tuple(items)


def _encode_item(kind, item):
    if kind == "number":
        return encode_number(item)
    if kind == "key":
        return encode_key(item)
    if kind == "value":
        return encode_value(item)
    if kind == "keys":
        return encode_keys(item)
    if kind == "writes":
        return encode_writes(item)
    if kind == "times":
        return _encode_times(item)
    return _encode_entries(item)


def _decode_item(kind, block, at):
    """Return the item whose encoding begins at an index, and the index behind it."""
    if kind == "number":
        return decode_number(block, at)
    if kind == "key":
        return decode_key(block, at)
    if kind == "value":
        return decode_value(block, at)
    if kind == "keys":
        return decode_keys(block, at)
    if kind == "writes":
        return decode_writes(block, at)
    if kind == "times":
        return _decode_times(block, at)
    return _decode_entries(block, at)


def _encode_times(times):
    """Return the block of a tuple of pairs (group number, time)."""
    if not _are_ascending([group for group, _ in times]):
        raise BadArgument("the group numbers must be ascending")
    block = encode_number(len(times))
    for group, time in times:
        block.extend(encode_number(group))
        block.extend(encode_number(time))
    return block


def _decode_times(block, at):
    many, behind = decode_number(block, at)
    times = []
    while len(times) < many:
        group, behind = decode_number(block, behind)
        time, behind = decode_number(block, behind)
        times.append((group, time))
    if not _are_ascending([group for group, _ in times]):
        raise BadBytes("the group numbers are not ascending")
    return tuple(times), behind


def _are_ascending(numbers):
    for lesser, greater in zip(numbers, numbers[1:]):
        if lesser >= greater:
            return False
    return True


def _encode_entries(entries):
    """Return the block of a tuple of pairs (term, record)."""
    block = encode_number(len(entries))
    for term, record in entries:
        inner = encode_record(record)
        block.extend(encode_number(term))
        block.extend(encode_number(len(inner)))
        block.extend(inner)
    return block


def _decode_entries(block, at):
    many, behind = decode_number(block, at)
    entries = []
    while len(entries) < many:
        entry, behind = _decode_entry(block, behind)
        entries.append(entry)
    return tuple(entries), behind


def _decode_entry(block, at):
    term, behind = decode_number(block, at)
    size, start = decode_number(block, behind)
    behind = start + size
    if behind > len(block):
        raise BadBytes("the block ends before the record is complete")
    return (term, decode_record(block[start:behind])), behind
