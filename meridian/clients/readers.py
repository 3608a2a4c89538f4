"""Readers, each of which reads some keys as they were at one time (point 48)."""

from meridian.clients.phases import ENDED, NEW, READING, WAITING
from meridian.clients.routing import group_of_key
from meridian.deals.stamps import look_time


class Reader:
    """A number, the keys to be read, a time, and what has been read."""

    def __init__(self, number, keys, cuts):
        self._number = number
        self._wanted = tuple(keys)
        self._cuts = tuple(cuts)
        self._phase = NEW
        self._time = None
        self._got = []

    @property
    def phase(self):
        return self._phase

    @property
    def time(self):
        return self._time

    @property
    def number(self):
        return self._number

    @property
    def wanted(self):
        """The keys to be read, as a tuple."""
        return self._wanted

    def got(self):
        """Return the pairs (key, value) that the reader has read."""
        return list(self._got)

    def push(self, span):
        """Act, and return the letters to be sent, as pairs (group, letter)."""
        if self._phase == NEW:
            self._time = look_time(span)
            self._phase = READING
        if self._phase == READING:
            key = self._next_key()
            return [(group_of_key(self._cuts, key), ("look", self._number, key, self._time))]
        if self._phase == WAITING and span.is_past(self._time):
            self._phase = ENDED
        return []

    def receive(self, letter):
        """Receive a letter."""
        if letter[0] != "seen" or letter[1] != self._number or self._phase != READING:
            return
        _, _, key, value = letter
        if key == self._next_key():
            self._got.append((key, value))
            if len(self._got) == len(self._wanted):
                self._phase = WAITING

    def _next_key(self):
        return self._wanted[len(self._got)]
