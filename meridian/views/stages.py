"""The stages in which servers use the index of a table while it is added or removed (points 64 and 65)."""

from meridian.errors import BadArgument

ABSENT = 0
DELETE = 1
WRITE = 2
PUBLIC = 3


class StagedTable:
    """The programs of a table at one stage of its index."""

    def __init__(self, table, stage):
        if stage < ABSENT or stage > PUBLIC:
            raise BadArgument("a stage is a number from 0 to 3")
        self._table = table
        self._stage = stage

    @property
    def stage(self):
        return self._stage

    def insert(self, primary, number):
        """Return the program that inserts a row."""
        row, entry = self._table.row_key(primary), self._table.entry_key(primary, number)
        program = [("equal", row, None), ("put", row, number)]
        if self._stage >= WRITE:
            program.append(("put", entry, 1))
        return tuple(program)

    def update(self, primary, old, new):
        """Return the program that gives a row another number."""
        row = self._table.row_key(primary)
        old_entry, new_entry = self._table.entry_key(primary, old), self._table.entry_key(primary, new)
        program = [("equal", row, old), ("put", row, new)]
        if self._stage >= DELETE:
            program.append(("drop", old_entry))
        if self._stage >= WRITE:
            program.append(("put", new_entry, 1))
        return tuple(program)

    def delete(self, primary, old):
        """Return the program that deletes a row."""
        row, entry = self._table.row_key(primary), self._table.entry_key(primary, old)
        program = [("equal", row, old), ("drop", row)]
        if self._stage >= DELETE:
            program.append(("drop", entry))
        return tuple(program)


def fill_program(table, primary, number):
    """Return the program that gives a row its index entry."""
    return (("equal", table.row_key(primary), number), ("put", table.entry_key(primary, number), 1))


def purge_program(table, primary, number):
    """Return the program that removes an index entry."""
    return (("drop", table.entry_key(primary, number)),)


def orphans(table, pairs):
    """Return the pairs (number, primary key) of the entries that are not those of a row."""
    rows = {(number, primary): True for primary, number in table.rows(pairs)}
    return [entry for entry in table.entries(pairs) if entry not in rows]


def lacking(table, pairs):
    """Return the pairs (number, primary key) of the rows that have no entry."""
    entries = {entry: True for entry in table.entries(pairs)}
    rows = [(number, primary) for primary, number in table.rows(pairs)]
    return sorted([row for row in rows if row not in entries])


def holds_at(table, low, pairs):
    """Return whether the index of a table holds at a low stage."""
    if low < ABSENT or low > WRITE:
        raise BadArgument("a low stage is a number from 0 to 2")
    if low == ABSENT:
        return table.entries(pairs) == []
    return orphans(table, pairs) == [] and (low == DELETE or lacking(table, pairs) == [])
