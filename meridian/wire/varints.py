"""Numbers, signed numbers, flags and values as blocks (points 4 and 5)."""

from meridian.errors import BadArgument, BadBytes


def encode_number(number):
    """Return the block of a number that is not negative."""
    if number < 0:
        raise BadArgument("a number to be encoded must not be negative")
    block = []
    while number >= 128:
        block.append(number % 128 + 128)
        number = number // 128
    block.append(number)
    return block


def decode_number(block, at=0):
    """Return the number whose encoding begins at an index, and the index behind it."""
    last = _last_index(block, at)
    if block[last] == 0 and last > at:
        raise BadBytes("the encoding of the number is not as short as possible")
    number = 0
    unit = 1
    for byte in block[at:last + 1]:
        number = number + byte % 128 * unit
        unit = unit * 128
    return number, last + 1


def encode_signed(number):
    """Return the block of a number of any sign."""
    if number < 0:
        return encode_number(-2 * number - 1)
    return encode_number(2 * number)


def decode_signed(block, at=0):
    """Return the signed number whose encoding begins at an index, and the index behind it."""
    code, behind = decode_number(block, at)
    if code % 2 == 1:
        return -(code // 2) - 1, behind
    return code // 2, behind


def encode_flag(flag):
    """Return the block of True or False."""
    if flag:
        return [1]
    return [0]


def decode_flag(block, at=0):
    """Return the flag at an index, and the index behind it."""
    _check_index(block, at)
    if block[at] > 1:
        raise BadBytes("a flag is written as 0 or 1")
    return block[at] == 1, at + 1


def encode_value(value):
    """Return the block of a value, which is a number or None."""
    if value is None:
        return [0]
    return [1] + encode_signed(value)


def decode_value(block, at=0):
    """Return the value whose encoding begins at an index, and the index behind it."""
    is_number, behind = decode_flag(block, at)
    if is_number:
        return decode_signed(block, behind)
    return None, behind


def _check_index(block, at):
    if at < 0 or at >= len(block):
        raise BadBytes("there is no byte at this index")


def _last_index(block, at):
    """Return the index of the last byte of the encoded number that begins at an index."""
    _check_index(block, at)
    while block[at] >= 128:
        at += 1
        _check_index(block, at)
    return at
