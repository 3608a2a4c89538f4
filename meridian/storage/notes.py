"""The notes that a journal writes, and what they say in order (points 16 and 17)."""

from meridian.errors import BadArgument, BadBytes, Refused
from meridian.storage.records import decode_record, encode_record
from meridian.wire.varints import decode_number, encode_number

BALLOT = 1
PROMISE = 2
ENTRY = 3

NO_VOTE = -1


def encode_note(note):
    """Return the block of a note."""
    if note[0] == "ballot":
        return [BALLOT] + encode_number(note[1]) + encode_number(note[2] + 1)
    if note[0] == "promise":
        return [PROMISE] + encode_number(note[1])
    if note[2] < 1:
        raise BadArgument("the term of an entry must be 1 or more")
    return [ENTRY] + encode_number(note[1]) + encode_number(note[2]) + encode_record(note[3])


def decode_note(block):
    """Return the note whose block this is."""
    if len(block) == 0 or block[0] < BALLOT or block[0] > ENTRY:
        raise BadBytes("the block does not begin with the byte for a kind of note")
    first, behind = decode_number(block, 1)
    if block[0] == PROMISE:
        _check_end(block, behind)
        return ("promise", first)
    second, behind = decode_number(block, behind)
    if block[0] == BALLOT:
        _check_end(block, behind)
        return ("ballot", first, second - 1)
    if second < 1:
        raise BadBytes("the term of an entry is 1 or more")
    return ("entry", first, second, decode_record(block[behind:]))


def _check_end(block, behind):
    if behind < len(block):
        raise BadBytes("there are bytes behind the note")


def replay(notes):
    """Return the term, the vote, the promise and the entries that a list of notes gives in order."""
    state = state_after(notes)
    term, vote = state.ballot
    return term, vote, state.until, state.log


def state_after(notes):
    """Return the durable state that a list of notes gives in order."""
    state = DurableState()
    for note in notes:
        state.take(note)
    return state


class DurableState:
    """The ballot, the promise and the log of a journal; notes change them."""

    def __init__(self):
        self.ballot = (0, NO_VOTE)
        self.until = 0
        self.log = []

    def take(self, note):
        """Apply a note, and return whether it is to be written; raise Refused and change nothing if refused."""
        if note[0] == "ballot":
            return self.take_ballot(note[1], note[2])
        if note[0] == "promise":
            return self.take_promise(note[1])
        return self.take_entry(note[1], note[2], note[3])

    def take_ballot(self, term, vote):
        """Set the term and the vote."""
        present, chosen = self.ballot
        if term < present:
            raise Refused("the term of a journal does not decrease")
        if term == present and chosen != NO_VOTE and vote != chosen:
            raise Refused("the vote of a term does not change")
        if self.ballot == (term, vote):
            return False
        self.ballot = (term, vote)
        return True

    def take_promise(self, until):
        """Set the promise, if it becomes greater."""
        if until <= self.until:
            return False
        self.until = until
        return True

    def take_entry(self, index, term, record):
        """Cut the log to its first entries, and append the entry."""
        if index > len(self.log):
            raise Refused("there is a gap between the log and the entry")
        if term > self.ballot[0]:
            raise Refused("the entry has a greater term than the journal")
        if index > 0 and term < self.log[index - 1][0]:
            raise Refused("the entry has a lesser term than the one before it")
        del self.log[index:]
        self.log.append((term, record))
        return True
