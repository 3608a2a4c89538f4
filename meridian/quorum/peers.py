"""What a leader knows of another replica of its group (point 24)."""


class Peer:
    """A next index, a matched length and a reported promise."""

    def __init__(self, next_index):
        self.next_index = next_index
        self.matched = 0
        self.reported = 0

    def raise_matched(self, length):
        """Take note that the replica has at least so many entries of the leader's log."""
        self.matched = max(self.matched, length)
        self.next_index = max(self.next_index, length)

    def lower_next(self, length):
        """Take note that the replica lacks what stands behind so many entries."""
        self.next_index = max(self.matched, min(self.next_index, length))

    def raise_reported(self, until):
        """Take note that the replica has promised at least so much."""
        self.reported = max(self.reported, until)
