"""Journals: the durable state of a replica (points 17, 18 and 19)."""

from meridian.errors import BadArgument
from meridian.storage.disks import Disk
from meridian.storage.notes import DurableState, decode_note, encode_note, state_after


class Journal:
    """A term, a vote, a promise and a log of entries, each change of which is written to a disk."""

    def __init__(self):
        self._disk = Disk()
        self._state = DurableState()
        self._safe_ballot = self._state.ballot
        self._safe_promise = self._state.until
        self._safe_length = 0

    @property
    def term(self):
        return self._state.ballot[0]

    @property
    def vote(self):
        return self._state.ballot[1]

    @property
    def promise(self):
        return self._state.until

    def __len__(self):
        return len(self._state.log)

    def entries(self):
        """Return the entries of the log, which are pairs (term, record)."""
        return list(self._state.log)

    def entry(self, index):
        """Return the entry at an index."""
        if index < 0 or index >= len(self._state.log):
            raise BadArgument("there is no entry at this index")
        return self._state.log[index]

    @property
    def last_term(self):
        if len(self._state.log) == 0:
            return 0
        return self._state.log[-1][0]

    def set_ballot(self, term, vote):
        """Set the term and the vote."""
        self._change(("ballot", term, vote))

    def make_promise(self, until):
        """Set the promise, if it becomes greater."""
        self._change(("promise", until))

    def put_entry(self, index, term, record):
        """Cut the log to its first entries, and append the entry."""
        self._change(("entry", index, term, record))
        # A crash may or may not keep the cut, so only the entries before it are still safe.
        self._safe_length = min(self._safe_length, index)

    def sync(self):
        """Make all changes safe."""
        self._disk.sync()
        self._note_safe_state()

    def crash(self, *, keep=0, last=None):
        """Crash and mend the disk, and read the state from it."""
        self._disk.crash(keep=keep, last=last)
        self._disk.mend()
        self._state = state_after(self.notes())
        self._note_safe_state()

    @property
    def safe_ballot(self):
        return self._safe_ballot

    @property
    def safe_promise(self):
        return self._safe_promise

    @property
    def safe_length(self):
        return self._safe_length

    @property
    def loose_size(self):
        return self._disk.loose_size

    def notes(self):
        """Return the notes on the disk, in order."""
        return [decode_note(block) for block in self._disk.frames()]

    def _change(self, note):
        """Apply a note to the state, and write it unless it changes nothing."""
        # The note is encoded first because a bad argument is found before a refusal.
        block = encode_note(note)
        if self._state.take(note):
            self._disk.write(block)

    def _note_safe_state(self):
        self._safe_ballot = self._state.ballot
        self._safe_promise = self._state.until
        self._safe_length = len(self._state.log)
