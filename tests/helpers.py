"""What several tests use."""

import random


def error_of(call, *args, **named):
    """Return the class of the error that a call raises, or None if it raises none."""
    try:
        call(*args, **named)
    except ValueError as error:
        return type(error)
    return None


def dice(seed):
    """Return a source of numbers that gives the same ones in each run."""
    return random.Random(seed)


def far_numbers(source, many=40):
    """Return numbers that are not negative and have up to 60 figures."""
    return [source.randrange(10 ** source.randrange(1, 61)) for _ in range(many)]


EDGE_NUMBERS = [0, 1, 2, 126, 127, 128, 129, 255, 256, 16383, 16384, 16385, 2097151, 2097152,
                10 ** 18 - 1, 10 ** 18, 2 ** 63, 10 ** 59, 10 ** 60 - 1]

KEYS = ["a", "b", "ab", "b.", "/", "z9", "a/1", "t.i/5/1", "c" * 130]
VALUES = [None, 0, 1, -1, 63, -64, 64, -65, 10 ** 29, -10 ** 29, 10 ** 30 - 1]


def some_keys(source):
    return tuple(sorted(source.sample(KEYS, source.randrange(4))))


def some_record(source, number=None):
    """Return a record of any kind, with numbers that are often at the ends of their ranges."""
    def pick(least):
        return source.choice([least, least + 1, 127, 128, 300, 10 ** 29 + 1])

    kind = source.choice(["floor", "prepare", "decide", "done"])
    if kind == "floor":
        return ("floor", pick(1) if number is None else number)
    if kind != "prepare":
        return (kind, pick(1), pick(0))
    writes = tuple((key, source.choice(VALUES)) for key in some_keys(source))
    return ("prepare", pick(1), pick(1), pick(0), some_keys(source), writes)


def plain_number(block, at):
    """Read the number at an index as point 4 says; None if there is none."""
    end = at
    while end < len(block) and block[end] > 127:
        end += 1
    if end >= len(block) or (end > at and block[end] == 0):
        return None
    return sum((byte & 127) << (7 * place) for place, byte in enumerate(block[at:end + 1])), end + 1


def plain_frames(block):
    """Read the frames from index 0 on as point 11 says; return the blocks and the index behind the last one."""
    found = []
    at = 0
    while True:
        head = plain_number(block, at)
        if head is None or head[1] + head[0] + 3 > len(block):
            return found, at
        size, start = head
        inner = block[start:start + size]
        if list(plain_checksum(inner).to_bytes(3, "big")) != block[start + size:start + size + 3]:
            return found, at
        found.append(inner)
        at = start + size + 3


def plain_checksum(block):
    """Work the checksum out from the powers of 31, without a remainder on the way."""
    total = 7 * 31 ** len(block)
    for place, byte in enumerate(block):
        total += (byte + 1) * 31 ** (len(block) - 1 - place)
    return total % 16000057

NEW_STATE = (0, -1, 0, [])


def plain_change(state, note):
    """Apply a note as point 17 says; return the new state, or None if the note is refused."""
    term, vote, promise, entries = state
    if note[0] == "ballot":
        another = note[1] == term and vote != -1 and note[2] != vote
        return None if note[1] < term or another else (note[1], note[2], promise, entries)
    if note[0] == "promise":
        return term, vote, max(promise, note[1]), entries
    _, index, entry_term, record = note
    if index > len(entries) or entry_term > term or (index > 0 and entries[index - 1][0] > entry_term):
        return None
    return term, vote, promise, entries[:index] + [(entry_term, record)]


def some_note(source):
    """Return a note with small numbers, so that many are taken and many are refused."""
    kind = source.choice(["ballot", "promise", "entry", "entry"])
    if kind == "ballot":
        return ("ballot", source.randrange(4), source.randrange(-1, 3))
    if kind == "promise":
        return ("promise", source.randrange(5))
    return ("entry", source.randrange(5), source.randrange(1, 4), some_record(source))
