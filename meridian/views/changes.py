"""Changes, which carry the index of a table through its stages while servers use it (point 66)."""

from meridian.deals.programs import put_rows, run_alone
from meridian.errors import BadArgument
from meridian.views.stages import ABSENT, DELETE, PUBLIC, WRITE, StagedTable, fill_program, lacking, purge_program


class Change:
    """A table, rows, the stages of some servers, and a cursor, up to which all rows have their entries."""

    def __init__(self, table, servers, rows):
        if servers < 1:
            raise BadArgument("there must be one server or more")
        if table.entries(list(rows.items())) != []:
            raise BadArgument("a change begins with rows without entries")
        self._table = table
        self._stages = [ABSENT] * servers
        self._rows = dict(rows)
        self._cursor = ""

    @property
    def cursor(self):
        return self._cursor

    @property
    def needed(self):
        if PUBLIC in self._stages:
            return WRITE
        if ABSENT in self._stages:
            return ABSENT
        return DELETE

    def stages(self):
        """Return the stages of the servers."""
        return list(self._stages)

    def rows(self):
        """Return the pairs (key, number) of all rows and entries."""
        return [(key, self._rows[key]) for key in sorted(self._rows)]

    def insert(self, server, primary, number):
        """Let a server insert a row, and return whether it did."""
        return self._act(server, self._staged(server).insert(primary, number))

    def update(self, server, primary, old, new):
        """Let a server give a row another number, and return whether it did."""
        return self._act(server, self._staged(server).update(primary, old, new))

    def delete(self, server, primary, old):
        """Let a server delete a row, and return whether it did."""
        return self._act(server, self._staged(server).delete(primary, old))

    def raise_stage(self, server):
        """Raise the stage of a server, and return whether this was possible."""
        self._check_server(server)
        stage = self._stages[server] + 1
        if stage > PUBLIC or (stage == PUBLIC and lacking(self._table, self.rows()) != []):
            return False
        return self._take_stage(server, stage)

    def lower_stage(self, server):
        """Lower the stage of a server, and return whether this was possible."""
        self._check_server(server)
        stage = self._stages[server] - 1
        if stage < ABSENT or (stage == ABSENT and self._table.entries(self.rows()) != []):
            return False
        return self._take_stage(server, stage)

    def fill(self, many):
        """Give some more rows their entries, and return whether this was possible."""
        _check_many(many)
        if min(self._stages) < WRITE:
            return False
        rows = [(primary, number) for primary, number in self._table.rows(self.rows()) if primary > self._cursor]
        for primary, number in rows[:many]:
            self._run(fill_program(self._table, primary, number))
            self._cursor = primary
        return True

    def purge(self, many):
        """Remove some entries, and return whether this was possible."""
        _check_many(many)
        if max(self._stages) > DELETE:
            return False
        entries = self._table.entries(self.rows())
        for number, primary in entries[:many]:
            self._run(purge_program(self._table, primary, number))
        self._cursor = ""
        return True

    def _check_server(self, server):
        if server < 0 or server >= len(self._stages):
            raise BadArgument("there is no such server")

    def _staged(self, server):
        """Return the table at the stage of a server."""
        self._check_server(server)
        return StagedTable(self._table, self._stages[server])

    def _run(self, program):
        """Execute a program on the rows, and return whether it did not give up."""
        _, writes, completed = run_alone(self._rows, program)
        self._rows = put_rows(self._rows, writes)
        return completed

    def _act(self, server, program):
        """Let a server execute a program, and return whether it took effect."""
        completed = self._run(program)
        # The server may have left a row without its entry, so rows must be filled from the first one on.
        if completed and self._stages[server] < WRITE:
            self._cursor = ""
        return completed

    def _take_stage(self, server, stage):
        """Give a server another stage, unless it would be too far away from another server's."""
        stages = list(self._stages)
        stages[server] = stage
        if max(stages) - min(stages) > 1:
            return False
        self._stages = stages
        return True


def _check_many(many):
    if many < 1:
        raise BadArgument("at least one row must be asked for")
