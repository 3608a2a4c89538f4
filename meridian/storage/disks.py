"""Disks that may lose and tear what was not synced (points 12 and 13)."""

from meridian.errors import BadArgument
from meridian.storage.frames import decode_frames, encode_frame


class Disk:
    """Kept bytes, which survive every crash, and loose bytes behind them."""

    def __init__(self):
        self._kept = []
        self._loose = []

    def kept(self):
        """Return the kept bytes."""
        return list(self._kept)

    def loose(self):
        """Return the loose bytes."""
        return list(self._loose)

    @property
    def size(self):
        return len(self._kept) + len(self._loose)

    @property
    def loose_size(self):
        return len(self._loose)

    def write(self, block):
        """Append the frame of a block to the loose bytes."""
        self._loose.extend(encode_frame(block))

    def sync(self):
        """Move all loose bytes to the kept ones."""
        self._kept.extend(self._loose)
        self._loose = []

    def crash(self, *, keep=0, last=None):
        """Move the first loose bytes to the kept ones, and lose the others; the last one moved may be torn."""
        if keep < 0 or keep > len(self._loose):
            raise BadArgument("a crash cannot keep that many loose bytes")
        if last is not None and (last < 0 or last > 255):
            raise BadArgument("the last byte must be from 0 to 255")
        moved = self._loose[:keep]
        if last is not None and keep > 0:
            moved[-1] = last
        self._kept.extend(moved)
        self._loose = []

    def frames(self):
        """Return the blocks in the frames of the disk as far as they are intact."""
        blocks, _ = decode_frames(self._kept + self._loose)
        return blocks

    def mend(self):
        """Remove the loose bytes, and the kept ones from the first frame on that is not intact."""
        _, behind = decode_frames(self._kept)
        self._kept = self._kept[:behind]
        self._loose = []
