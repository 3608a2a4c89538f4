"""Checksums, and blocks that are sealed with them (point 7)."""

from meridian.errors import BadBytes, BadSeal


def checksum(block):
    """Return the checksum of a block, a number from 0 to 16000056."""
    total = 7
    for byte in block:
        total = (31 * total + byte + 1) % 16000057
    return total


def seal(block):
    """Return the block with its checksum behind it."""
    return block + _checksum_bytes(block)


def open_seal(block):
    """Return the block that was sealed."""
    if len(block) < 3:
        raise BadBytes("a sealed block has at least three bytes")
    sealed = block[:-3]
    if block[-3:] != _checksum_bytes(sealed):
        raise BadSeal("the block ends with a wrong checksum")
    return sealed


def _checksum_bytes(block):
    total = checksum(block)
    return [total // 65536, total // 256 % 256, total % 256]
