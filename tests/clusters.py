"""Clusters: programs for them, and long runs of mixed actions."""

from meridian.world.cluster import Cluster
from tests.runs import fabric_view
from tests.services import service_view

NAMES = ("a", "b", "c", "m", "p", "x")

# How often each action is tried in a run.
WEIGHTS = {"deliver": 420, "flush": 260, "tick": 45, "stand": 8, "send": 150, "lease": 50, "close": 8, "ask": 8,
           "push": 130, "look": 60, "drift": 30, "crash": 6, "restart": 30, "lose": 10, "double": 40, "damage": 10}


def some_program(source, names=NAMES):
    """Return a program that often reads and writes several keys, and seldom gives up."""
    return [some_operation(source, names) for _ in range(source.randrange(1, 5))]


def some_operation(source, names):
    word = source.choice(["read", "read", "put", "put", "drop", "add", "add", "add", "copy", "copy", "need", "equal"])
    key = source.choice(names)
    if word in ("read", "drop"):
        return (word, key)
    if word == "copy":
        return (word, key, source.choice(names))
    if word == "equal":
        return (word, key, source.choice([None, None, 1, 2]))
    return (word, key, source.randrange(-1, 3) if word == "need" else source.randrange(1, 50))


def some_cluster(source, *, clients=20, readers=10, cuts=None, size=None, bound=None):
    """Return a cluster with drawn programs and lists of keys."""
    if cuts is None:
        cuts = source.choice([[], ["m"], ["b", "n"], ["b", "c", "p"]])
    programs = [some_program(source) for _ in range(clients)]
    lookups = [sorted(source.sample(NAMES, source.randrange(1, 5))) for _ in range(readers)]
    return Cluster(programs, lookups, cuts=cuts, size=size or source.choice([1, 2, 3, 3, 3]),
                   bound=source.choice([0, 1, 5, 20, 50]) if bound is None else bound)


def clients_of(cluster):
    return [cluster.client(index) for index in range(cluster.many_clients)]


def readers_of(cluster):
    return [cluster.reader(index) for index in range(cluster.many_readers)]


def guests_of(cluster):
    return clients_of(cluster) + readers_of(cluster)


def leaders_of(cluster):
    return [node for node in range(cluster.nodes) if cluster.fabric.replica(node).role == "leader"]


def some_guest(source, guests):
    """Return the index of a guest, mostly of one of the first few that have not ended."""
    running = [index for index, guest in enumerate(guests) if guest.phase != "ended"]
    if not running or source.random() < 0.1:
        return source.randrange(max(1, len(guests)))
    return source.choice(running[:4])


def arguments(source, cluster, word):
    """Return arguments for an action, most of which make it possible."""
    fabric = cluster.fabric
    node = source.randrange(cluster.nodes)
    packet = source.randrange(max(1, len(fabric.network)))
    if word == "tick":
        return (source.choice([1, 1, 2, 5, 12, 60]),)
    if word == "drift":
        bound = cluster.clock_bound
        return (source.randrange(fabric.addresses), source.choice([-bound, bound, source.randrange(-bound, bound + 1)]))
    if word in ("send", "lease", "close", "ask"):
        leaders = leaders_of(cluster)
        if leaders and source.random() < 0.9:
            node = source.choice(leaders)
        second = {"close": (), "lease": (source.randrange(100),), "ask": (source.randrange(1, cluster.many_clients + 2),),
                  "send": (source.choice(fabric.members(fabric.group_of(node))),)}
        return (node,) + second[word]
    if word in ("deliver", "lose", "double"):
        return (packet,)
    if word == "push":
        return (some_guest(source, clients_of(cluster)),)
    if word == "look":
        return (some_guest(source, readers_of(cluster)),)
    if word == "damage":
        size = len(fabric.network.packet(packet)[2]) if packet < len(fabric.network) else 1
        return (packet, source.randrange(size), source.randrange(1, 256))
    if word == "crash":
        loose = fabric.replica(node).journal.loose_size
        return (node, source.randrange(loose + 1), source.choice([None, None, source.randrange(256)]))
    return (node,)


def act(source, cluster, weights=WEIGHTS):
    """Try one action; return its name and whether it was performed."""
    word = source.choices(list(weights), list(weights.values()))[0]
    return word, getattr(cluster, word)(*arguments(source, cluster, word))


def exchange(cluster, many=3):
    """Flush all and deliver all, three times."""
    for _ in range(many):
        for node in range(cluster.nodes):
            cluster.flush(node)
        while cluster.deliver(0):
            pass


class Run:
    """A long run of mixed actions, in which now and then things go well, or a replica hears nothing of its group."""

    def __init__(self, source, cluster, *, weights=WEIGHTS, bursts=0.02, splits=0.005):
        self.source = source
        self.cluster = cluster
        self.weights = weights
        self.bursts = bursts
        self.splits = splits
        self.lonely = None

    def steps(self, many):
        """Do mixed actions; yield after each of them, and now and then within a burst."""
        for address in range(self.cluster.fabric.addresses):
            self.cluster.drift(address, self.source.choice([-1, 0, 1]) * self.cluster.clock_bound)
        for _ in range(many):
            if self.source.random() < self.splits:
                self.lonely = None if self.source.random() < 0.4 else self.source.randrange(self.cluster.nodes)
            if self.source.random() < self.bursts:
                for _ in self.burst():
                    yield
            self.act()
            yield

    def act(self):
        word = self.source.choices(list(self.weights), list(self.weights.values()))[0]
        args = arguments(self.source, self.cluster, word)
        if word == "deliver" and self.lonely is not None:
            free = self.free_packets()
            args = (self.source.choice(free) if free else 0,)
        getattr(self.cluster, word)(*args)

    def free_packets(self):
        """Return the indexes of the packets that are no group letters from or to the lonely replica."""
        found = []
        for index, (sender, to, block) in enumerate(self.cluster.fabric.network):
            if self.lonely is None or block[0] > 7 or self.lonely not in (sender, to):
                found.append(index)
        return found

    def exchange(self, many):
        for _ in range(many):
            for node in range(self.cluster.nodes):
                self.cluster.flush(node)
            free = self.free_packets()
            while free:
                self.cluster.deliver(free[0])
                free = self.free_packets()

    def burst(self):
        """Let things go well for a moment, so that a long run gets somewhere; yield after each step of it."""
        cluster, source = self.cluster, self.source
        for node in range(cluster.nodes):
            if source.random() < 0.7:
                cluster.restart(node)
        if source.random() < 0.5:
            cluster.tick(4 * cluster.clock_bound + source.choice([2, 10, 120]))
        yield
        for group in range(cluster.fabric.groups):
            members = cluster.fabric.members(group)
            if not [node for node in members if node in leaders_of(cluster) and node != self.lonely]:
                cluster.stand(source.choice(members))
        self.exchange(2)
        yield
        for _ in range(source.randrange(1, 5)):
            for node in leaders_of(cluster):
                if source.random() < 0.8:
                    cluster.lease(node, 4 * cluster.clock_bound + source.choice([0, 4, 50]))
                for to in cluster.fabric.members(cluster.fabric.group_of(node)):
                    cluster.send(node, to)
            for _ in range(3):
                cluster.push(some_guest(source, clients_of(cluster)))
                cluster.look(some_guest(source, readers_of(cluster)))
            self.exchange(source.choice([1, 2, 3]))
            yield


def long_run(source, cluster, many, bursts=0.02):
    """Do mixed actions; yield after each of them."""
    yield from Run(source, cluster, bursts=bursts).steps(many)


def guest_view(guest):
    found = {"phase": guest.phase, "got": guest.got()}
    if hasattr(guest, "result"):
        found.update(result=guest.result, prepared=guest.prepared())
    else:
        found.update(time=guest.time)
    return found


def cluster_view(cluster):
    """Return all that can be seen of a cluster."""
    found = fabric_view(cluster.fabric)
    found["services"] = [service_view(cluster.fabric.replica(node), cluster.service(node))
                         for node in range(cluster.nodes)]
    found["guests"] = [guest_view(guest) for guest in guests_of(cluster)]
    found["steps"] = cluster.steps
    found["chronicles"] = [cluster.chronicle(group) for group in range(cluster.fabric.groups)]
    found["history"] = cluster.history()
    found["spans of guests"] = ([cluster.span_of_client(index) for index in range(cluster.many_clients)] +
                                [cluster.span_of_reader(index) for index in range(cluster.many_readers)])
    return found


def committed_rows(cluster, time):
    """Return the rows that the transactions committed up to a time leave."""
    rows = {}
    for deed in sorted([deed for deed in cluster.history() if deed[0] == "txn"], key=lambda deed: deed[4]):
        if deed[4] <= time:
            rows.update(deed[6])
    return {key: value for key, value in rows.items() if value is not None}
