"""Tables with an index, whose rows and entries are keys of the store (point 58)."""

from meridian.errors import BadArgument
from meridian.wire.texts import ALPHABET

LETTERS = "abcdefghijklmnopqrstuvwxyz"
FIGURES = "0123456789"
MOST = 1000000000000


class Table:
    """A name, from which the keys of rows and index entries are made."""

    def __init__(self, name):
        if name == "" or not _consists_of(name, LETTERS):
            raise BadArgument("the name of a table consists of one or more letters a to z")
        self._row_start = name + "/"
        self._entry_start = name + ".i/"

    def row_key(self, primary):
        """Return the key of the row with a primary key."""
        _check_primary(primary)
        return self._row_start + primary

    def entry_key(self, primary, number):
        """Return the key of the index entry of a row with a number."""
        _check_primary(primary)
        if number < 0 or number > MOST:
            raise BadArgument("the number of a row is out of its range")
        return f"{self._entry_start}{number}/{primary}"

    def insert(self, primary, number):
        """Return the program that inserts a row."""
        row, entry = self.row_key(primary), self.entry_key(primary, number)
        return (("equal", row, None), ("put", row, number), ("put", entry, 1))

    def update(self, primary, old, new):
        """Return the program that gives a row another number."""
        row = self.row_key(primary)
        old_entry, new_entry = self.entry_key(primary, old), self.entry_key(primary, new)
        return (("equal", row, old), ("put", row, new), ("drop", old_entry), ("put", new_entry, 1))

    def delete(self, primary, old):
        """Return the program that deletes a row."""
        row, entry = self.row_key(primary), self.entry_key(primary, old)
        return (("equal", row, old), ("drop", row), ("drop", entry))

    def rows(self, pairs):
        """Return the pairs (primary key, number) of the table's rows among pairs (key, value)."""
        found = []
        for key, value in pairs:
            primary = key[len(self._row_start):]
            if key.startswith(self._row_start) and _is_primary(primary) and _is_number(value):
                found.append((primary, value))
        return found

    def entries(self, pairs):
        """Return the pairs (number, primary key) of the table's index entries among pairs (key, value)."""
        entries = [self._entry_of(key) for key, _ in pairs]
        return sorted([entry for entry in entries if entry is not None])

    def agrees(self, pairs):
        """Return whether the entries are exactly those of the rows."""
        return self.entries(pairs) == sorted([(number, primary) for primary, number in self.rows(pairs)])

    def between(self, pairs, low, high):
        """Return the pairs (number, primary key) of the entries with a number from low to high."""
        return [(number, primary) for number, primary in self.entries(pairs) if low <= number <= high]

    def _entry_of(self, key):
        """Return the pair (number, primary key) of which a key is the index entry, or None."""
        if not key.startswith(self._entry_start):
            return None
        figures, _, primary = key[len(self._entry_start):].partition("/")
        if not _are_figures(figures) or not _is_primary(primary):
            return None
        return (int(figures), primary)


def _consists_of(text, characters):
    return len([character for character in text if character not in characters]) == 0


def _is_primary(text):
    return text != "" and "/" not in text and _consists_of(text, ALPHABET)


def _check_primary(primary):
    if not _is_primary(primary):
        raise BadArgument("a primary key is not empty, has no slash, and no character that is not in the alphabet")


def _is_number(value):
    return value is not None and 0 <= value <= MOST


def _are_figures(text):
    """Return whether a text is what an index entry has as its number."""
    # The length is asked first, because Python does not convert very long texts.
    if text == "" or len(text) > len(str(MOST)) or not _consists_of(text, FIGURES):
        return False
    return str(int(text)) == text and int(text) <= MOST
