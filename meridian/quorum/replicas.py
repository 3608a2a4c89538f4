"""Replicas, which elect a leader and copy its log (points 23 to 31)."""

from meridian.errors import BadArgument
from meridian.quorum.peers import Peer
from meridian.storage.journals import Journal
from meridian.storage.notes import NO_VOTE
from meridian.storage.records import encode_record, latest_time

FOLLOWER = "follower"
CANDIDATE = "candidate"
LEADER = "leader"


class Replica:
    """One member of a group, with its journal, its role and its outbox."""

    def __init__(self, base, size, me):
        if base < 0:
            raise BadArgument("the base of a group must not be negative")
        if size < 1:
            raise BadArgument("a group has one replica or more")
        if me < 0 or me >= size:
            raise BadArgument("the member number must be from 0 to size - 1")
        self.journal = Journal()
        self._base = base
        self._size = size
        self._me = me
        self._role = FOLLOWER
        self._sure = 0
        self._outbox = []
        self._supporters = {}
        self._peers = {}
        self._tenures = 0

    @property
    def base(self):
        return self._base

    @property
    def size(self):
        return self._size

    @property
    def me(self):
        return self._me

    @property
    def role(self):
        return self._role

    @property
    def sure(self):
        return self._sure

    @property
    def term(self):
        return self.journal.term

    @property
    def address(self):
        return self._base + self._me

    @property
    def lease_end(self):
        if self._role != LEADER:
            return 0
        promises = [peer.reported for peer in self._peers.values()] + [self.journal.safe_promise]
        # The last one of a majority, if the greatest promises come first.
        return sorted(promises, reverse=True)[self._size // 2]

    @property
    def tenures(self):
        """How often this replica has become leader."""
        return self._tenures

    def sure_entries(self):
        """Return the entries of the log that the replica knows to be committed."""
        return self.journal.entries()[:self._sure]

    def outbox(self):
        """Return the pairs (address, letter) that wait for a flush."""
        return list(self._outbox)

    def post(self, to, letter):
        """Put a letter into the outbox."""
        self._outbox.append((to, letter))

    def stand(self, span):
        """Become a candidate for the next term, and return whether this was possible."""
        if self._role == LEADER or not span.is_past(self.journal.promise):
            return False
        self.journal.set_ballot(self.term + 1, self._me)
        self._change_role(CANDIDATE)
        self._post_to_others(("ask_vote", self.term, self.journal.last_term, len(self.journal)))
        return True

    def propose(self, record):
        """Put a record at the end of a leader's log, and return whether this was possible."""
        # Encoded only because a bad record is an error for every role.
        encode_record(record)
        if self._role != LEADER:
            return False
        self._append(record)
        return True

    def send(self, to):
        """Put a leader's entries for another replica into the outbox, and return whether this was possible."""
        if self._role != LEADER or to not in self._peers:
            return False
        start = self._peers[to].next_index
        entries = tuple(self.journal.entries()[start:])
        self.post(to, ("append", self.term, start, self._term_before(start), entries, self._sure))
        return True

    def ask_lease(self, until):
        """Ask for a leader's lease, and return whether this was possible."""
        if until < 0:
            raise BadArgument("a lease must not end before the time 0")
        if self._role != LEADER:
            return False
        self.journal.make_promise(until)
        self._post_to_others(("ask_lease", self.term, until))
        return True

    def receive(self, sender, letter, span):
        """Receive a group letter from another replica of the group."""
        name = letter[0]
        if name == "ask_vote":
            self._receive_ask_vote(sender, letter, span)
        else:
            if letter[1] > self.term:
                self._step_down(letter[1])
            if name == "append":
                self._receive_append(sender, letter)
            elif name == "ask_lease":
                self._receive_ask_lease(sender, letter)
            elif letter[1] == self.term:
                self._receive_answer(sender, letter)
        self._review(span)

    def flush(self, span):
        """Sync the journal, and return what was in the outbox before."""
        self.journal.sync()
        pairs = self._outbox
        self._outbox = []
        self._review(span)
        return pairs

    def crash(self, *, keep=0, last=None):
        """Lose all that is not safe in the journal, and all that was never written there."""
        self.journal.crash(keep=keep, last=last)
        self._outbox = []
        self._sure = 0
        self._change_role(FOLLOWER)

    def _other_addresses(self):
        return [to for to in range(self._base, self._base + self._size) if to != self.address]

    def _post_to_others(self, letter):
        for to in self._other_addresses():
            self.post(to, letter)

    def _is_majority(self, many):
        return 2 * many > self._size

    def _append(self, record):
        """Put an entry of the replica's term at the end of the log."""
        self.journal.put_entry(len(self.journal), self.term, record)

    def _term_before(self, index):
        """Return the term of the entry before an index of the log; 0 if there is none."""
        if index == 0:
            return 0
        return self.journal.entry(index - 1)[0]

    def _change_role(self, role):
        """Take a role, and forget what belonged to the role before."""
        self._role = role
        self._supporters = {}
        self._peers = {}

    def _step_down(self, term):
        self.journal.set_ballot(term, NO_VOTE)
        self._change_role(FOLLOWER)

    def _review(self, span):
        if self._role == CANDIDATE and self._is_elected():
            self._lead(span)
        if self._role == LEADER:
            self._raise_sure()

    def _is_elected(self):
        many = len(self._supporters)
        # An own vote that a crash can take away must not be counted.
        if self.journal.safe_ballot == (self.term, self._me):
            many += 1
        return self._is_majority(many)

    def _lead(self, span):
        """Become leader, and append the opening record."""
        self._change_role(LEADER)
        self._tenures += 1
        self._peers = {to: Peer(len(self.journal)) for to in self._other_addresses()}
        latest = latest_time([record for _, record in self.journal.entries()])
        self._append(("floor", max(latest + 1, span.high)))

    def _raise_sure(self):
        """Find the greatest number of entries that a majority has and that ends in the leader's term."""
        many = len(self.journal)
        # Terms never decrease in a log, so an entry of an earlier term ends the search.
        while many > self._sure and self.journal.entry(many - 1)[0] == self.term:
            if self._is_majority(self._holders_of(many)):
                self._sure = many
            many -= 1

    def _holders_of(self, many):
        """Return how many replicas are known to have at least so many entries safe."""
        lengths = [peer.matched for peer in self._peers.values()] + [self.journal.safe_length]
        return len([length for length in lengths if length >= many])

    def _receive_ask_vote(self, sender, letter, span):
        _, term, last_term, length = letter
        if term < self.term:
            self._post_behind(sender, len(self.journal))
            return
        if not span.is_past(self.journal.promise):
            return
        if term > self.term:
            self._step_down(term)
        member = sender - self._base
        is_free = self.journal.vote in (NO_VOTE, member)
        if is_free and (last_term, length) >= (self.journal.last_term, len(self.journal)):
            self.journal.set_ballot(term, member)
            self.post(sender, ("give_vote", term))

    def _post_behind(self, to, length):
        self.post(to, ("behind", self.term, length))

    def _receive_append(self, sender, letter):
        _, term, start, previous, entries, sure = letter
        if term < self.term:
            self._post_behind(sender, len(self.journal))
            return
        if self._role == LEADER:
            return
        self._change_role(FOLLOWER)
        if start > len(self.journal) or (start > 0 and self._term_before(start) != previous):
            self._post_behind(sender, min(len(self.journal), start - 1))
            return
        self._take_entries(start, entries)
        length = start + len(entries)
        self._sure = max(self._sure, min(sure, length))
        self.post(sender, ("appended", term, length))

    def _take_entries(self, start, entries):
        for index, (term, record) in enumerate(entries, start=start):
            # What is there already stays, so that an old letter does not cut what came after it.
            if index >= len(self.journal) or self.journal.entry(index)[0] != term:
                self.journal.put_entry(index, term, record)

    def _receive_ask_lease(self, sender, letter):
        _, term, until = letter
        if term < self.term or self._role == LEADER:
            return
        self._change_role(FOLLOWER)
        self.journal.make_promise(until)
        self.post(sender, ("give_lease", term, self.journal.promise))

    def _receive_answer(self, sender, letter):
        """Receive an answer of the replica's own term."""
        name = letter[0]
        if name == "give_vote":
            if self._role == CANDIDATE:
                self._supporters[sender] = True
            return
        if self._role != LEADER:
            return
        peer = self._peers[sender]
        if name == "appended":
            peer.raise_matched(letter[2])
        elif name == "behind":
            peer.lower_next(letter[2])
        elif name == "give_lease":
            peer.raise_reported(letter[2])
