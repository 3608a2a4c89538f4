"""Clients, each of which carries out one transaction (points 46 and 47)."""

from meridian.clients.phases import COMMITTING, ENDED, NEW, PREPARING, READING
from meridian.clients.routing import group_of_key
from meridian.deals.programs import advance


class Client:
    """A transaction number, a program, and what has become of them."""

    def __init__(self, txn, program, cuts):
        self._txn = txn
        self._program = tuple(program)
        self._cuts = tuple(cuts)
        self._phase = NEW
        self._result = None
        self._got = []
        self._writes = ()
        self._parts = []
        # The known terms and the prepare times of groups.
        self._terms = {}
        self._times = {}

    @property
    def phase(self):
        return self._phase

    @property
    def result(self):
        return self._result

    @property
    def txn(self):
        return self._txn

    @property
    def program(self):
        """The operations of the program, as a tuple."""
        return self._program

    def got(self):
        """Return the pairs (key, value) that the client has read."""
        return list(self._got)

    def writes(self):
        """Return the writes of the program for what the client has read; () as long as it is not done."""
        return self._writes

    def prepared(self):
        """Return the pairs (group, prepare time)."""
        return [(group, self._times[group]) for group in sorted(self._times)]

    def push(self):
        """Act, and return the letters to be sent, as pairs (group, letter)."""
        if self._phase == NEW:
            self._phase = READING
        if self._phase == READING:
            return self._push_program()
        if self._phase == PREPARING:
            return self._prepare_letters()
        if self._phase == COMMITTING:
            return [(self._parts[0], ("commit", self._txn, tuple(self.prepared())))]
        return []

    def receive(self, letter):
        """Receive a letter."""
        if letter[1] != self._txn:
            return
        name = letter[0]
        if name == "value" and self._phase == READING:
            self._receive_value(letter)
        elif name == "refuse" and self._phase in (READING, PREPARING):
            self._end(0)
        elif name == "prepared" and self._phase == PREPARING:
            self._receive_prepared(letter[2], letter[3])
        elif name == "outcome" and self._phase == COMMITTING:
            self._end(letter[2])

    def _group_of(self, key):
        return group_of_key(self._cuts, key)

    def _end(self, result):
        self._phase = ENDED
        self._result = result

    def _push_program(self):
        """Ask for the next key, or give up, or begin to prepare."""
        answer = advance(self._program, self._got)
        if answer[0] == "ask":
            group = self._group_of(answer[1])
            return [(group, ("read", self._txn, answer[1], self._terms.get(group, 0)))]
        if answer[0] == "give_up":
            self._end(0)
            return []
        self._writes = answer[1]
        self._parts = sorted(set([self._group_of(key) for key, _ in self._got + list(self._writes)]))
        self._phase = PREPARING
        return self._prepare_letters()

    def _prepare_letters(self):
        return [(part, self._prepare_letter(part)) for part in self._parts if part not in self._times]

    def _prepare_letter(self, part):
        reads = tuple(sorted([key for key, _ in self._got if self._group_of(key) == part]))
        writes = tuple([(key, value) for key, value in self._writes if self._group_of(key) == part])
        return ("prepare", self._txn, self._terms.get(part, 0), self._parts[0], reads, writes)

    def _receive_value(self, letter):
        _, _, key, value, term = letter
        group = self._group_of(key)
        if advance(self._program, self._got) == ("ask", key) and self._terms.get(group, term) == term:
            self._got.append((key, value))
            self._terms[group] = term

    def _receive_prepared(self, group, time):
        if group in self._parts and group not in self._times:
            self._times[group] = time
            if len(self._times) == len(self._parts):
                self._phase = COMMITTING
