"""Transaction programs (points 38 and 39)."""

from meridian.errors import BadArgument
from meridian.wire.rows import encode_key

# The indexes at which the keys of an operation stand.
KEYS = {
    "read": (1,),
    "put": (1,),
    "drop": (1,),
    "add": (1,),
    "need": (1,),
    "equal": (1,),
    "copy": (1, 2),
}

# The index of the key that an operation reads, and of the key that it changes.
READ_KEY = {"read": 1, "add": 1, "need": 1, "equal": 1, "copy": 1}
CHANGED_KEY = {"put": 1, "drop": 1, "add": 1, "copy": 2}


def check_program(program):
    """Raise BadArgument unless this is a program."""
    if len(program) == 0:
        raise BadArgument("a program has one operation or more")
    for operation in program:
        if operation[0] not in KEYS:
            raise BadArgument("an operation has a strange name")
        for at in KEYS[operation[0]]:
            # Encoded only because that finds every wrong key.
            encode_key(operation[at])


def advance(program, got):
    """Return what a program does next, when these pairs (key, value) have been read from the store."""
    known = dict(got)
    changed = {}
    for operation in program:
        name = operation[0]
        value = None
        if name in READ_KEY:
            key = operation[READ_KEY[name]]
            if key not in known:
                return ("ask", key)
            value = known[key]
        if _gives_up(operation, value):
            return ("give_up",)
        if name in CHANGED_KEY:
            key = operation[CHANGED_KEY[name]]
            changed[key] = _new_value(operation, value)
            known[key] = changed[key]
    return ("done", tuple([(key, changed[key]) for key in sorted(changed)]))


def run_alone(rows, program):
    """Execute a program on rows; return what it has read, its writes, and whether it did not give up."""
    got = []
    answer = advance(program, got)
    while answer[0] == "ask":
        got.append((answer[1], rows.get(answer[1])))
        answer = advance(program, got)
    if answer[0] == "give_up":
        return got, (), False
    return got, answer[1], True


def put_rows(rows, writes):
    """Return the rows after some writes."""
    changed = dict(rows)
    for key, value in writes:
        if value is None:
            changed.pop(key, None)
        else:
            changed[key] = value
    return changed


def changed_keys(program):
    """Return all keys that the operations of a program may change."""
    keys = [operation[CHANGED_KEY[operation[0]]] for operation in program if operation[0] in CHANGED_KEY]
    return tuple(sorted(set(keys)))


def _gives_up(operation, value):
    """Return whether an operation gives up when its key has this value."""
    if operation[0] == "need":
        return value is None or value < operation[2]
    return operation[0] == "equal" and value != operation[2]


def _new_value(operation, value):
    """Return what an operation makes of the key that it changes, when the key that it reads has this value."""
    if operation[0] == "put":
        return operation[2]
    if operation[0] == "drop":
        return None
    if operation[0] == "copy":
        return value
    if value is None:
        return operation[2]
    return value + operation[2]
