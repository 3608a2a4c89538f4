"""The clients and readers of a cluster, with the steps at which they began and ended (point 50)."""

from meridian.clients.phases import ENDED, NEW


class Visit:
    """A client or reader, its address (its home), and the steps at which it began and ended."""

    def __init__(self, guest, home):
        self.guest = guest
        self.home = home
        self.begin = None
        self.end = None

    def note(self, step):
        """Take note of what has become of the guest at a step."""
        if self.begin is None and self.guest.phase != NEW:
            self.begin = step
        if self.end is None and self.guest.phase == ENDED:
            self.end = step
