"""Frames: how blocks stand one behind another on a disk (point 11)."""

from meridian.errors import BadBytes
from meridian.wire.seals import open_seal, seal
from meridian.wire.varints import decode_number, encode_number


def encode_frame(block):
    """Return the frame of a block."""
    return encode_number(len(block)) + seal(block)


def decode_frame(block, at=0):
    """Return the block in the frame that is intact at an index, and the index behind the frame."""
    size, start = decode_number(block, at)
    behind = start + size + 3
    if behind > len(block):
        raise BadBytes("the block ends before the frame is complete")
    return open_seal(block[start:behind]), behind


def decode_frames(block):
    """Return the blocks in the frames from index 0 on as long as they are intact, and the index behind."""
    found = []
    behind = 0
    while behind < len(block):
        try:
            inner, behind = decode_frame(block, behind)
        except BadBytes:
            break
        found.append(inner)
    return found, behind
