"""States of logs that grow."""

from meridian.ledger.states import State


class StateKeeper:
    """Keeps the state of the last list of entries, so that a longer one is not applied from the start."""

    def __init__(self):
        self._entries = []
        self._state = State()

    def state_after(self, entries):
        """Return the state of the records of a list of entries."""
        many = len(self._entries)
        if entries[:many] != self._entries:
            # The log was cut, so nothing of the kept state can be used.
            many = 0
            self._state = State()
        if len(entries) > many:
            # A twin is changed, because a caller may still hold the state that was returned before.
            state = self._state.twin()
            for _, record in entries[many:]:
                state.apply(record)
            self._state = state
        self._entries = list(entries)
        return self._state
