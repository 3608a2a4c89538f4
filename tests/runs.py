"""Fabrics: what can be seen of them, and long runs of mixed actions."""

from tests.groups import view
from tests.helpers import some_record

# How often each action is tried in a run.
WEIGHTS = {"deliver": 42, "flush": 26, "tick": 6, "stand": 4, "propose": 8, "send": 18, "lease": 7, "crash": 2,
           "restart": 4, "drift": 3, "lose": 4, "double": 8, "damage": 5}


def fabric_view(fabric):
    """Return all that can be seen of a fabric."""
    many = len(fabric.network)
    spans = [fabric.span(address) for address in range(fabric.addresses)]
    return {
        "now": fabric.now,
        "packets": [(sender, to, list(block)) for sender, to, block in fabric.network],
        "damaged": [fabric.network.is_damaged(index) for index in range(many)],
        "up": [fabric.is_up(node) for node in range(fabric.nodes)],
        "replicas": [view(fabric.replica(node)) for node in range(fabric.nodes)],
        "spans": [(span.low, span.high) for span in spans],
    }


def arguments(source, fabric, word):
    """Return arguments for an action, most of which make it possible."""
    node = source.randrange(fabric.nodes)
    leaders = [at for at in range(fabric.nodes) if fabric.replica(at).role == "leader"]
    packet = source.randrange(max(1, len(fabric.network)))
    if word == "tick":
        return (source.choice([1, 2, 5, 12, 60]),)
    if word == "drift":
        address = source.randrange(fabric.addresses)
        span = fabric.span(address)
        bound = (span.high - span.low) // 2
        return (address, source.randrange(-bound, bound + 1))
    if word in ("propose", "send", "lease"):
        if leaders and source.random() < 0.9:
            node = source.choice(leaders)
        second = {"propose": some_record(source), "lease": source.randrange(25),
                  "send": source.choice(fabric.members(fabric.group_of(node)))}
        return (node, second[word])
    if word in ("deliver", "lose", "double"):
        return (packet,)
    if word == "damage":
        size = len(fabric.network.packet(packet)[2]) if packet < len(fabric.network) else 1
        return (packet, source.randrange(size), source.randrange(1, 256))
    if word == "crash":
        loose = fabric.replica(node).journal.loose_size
        return (node, source.randrange(loose + 1), source.choice([None, None, source.randrange(256)]))
    return (node,)


def act(source, fabric):
    """Try one action; return its name and whether it was performed."""
    word = source.choices(list(WEIGHTS), list(WEIGHTS.values()))[0]
    return word, getattr(fabric, word)(*arguments(source, fabric, word))


def elect(fabric, node):
    """Make a replica of a new fabric the leader of its group, with its opening record sure."""
    fabric.stand(node)
    exchange(fabric)
    for _ in range(2):
        for to in fabric.members(fabric.group_of(node)):
            fabric.send(node, to)
        exchange(fabric)


def exchange(fabric):
    """Flush all and deliver all, three times."""
    for _ in range(3):
        for node in range(fabric.nodes):
            fabric.flush(node)
        while fabric.deliver(0):
            pass
