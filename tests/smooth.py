"""Smooth runs of a cluster (point 60)."""

from tests.clusters import exchange


def firsts(cluster):
    """Return the first replica of each group."""
    return [cluster.fabric.members(group)[0] for group in range(cluster.fabric.groups)]


def copy(cluster):
    for _ in range(2):
        for first in firsts(cluster):
            for to in cluster.fabric.members(cluster.fabric.group_of(first))[1:]:
                cluster.send(first, to)
        exchange(cluster)


def begin(cluster):
    """Let the first replicas lead."""
    cluster.tick(2 * cluster.clock_bound + 1)
    for first in firsts(cluster):
        cluster.stand(first)
    exchange(cluster)
    copy(cluster)


def round_of(cluster, act, index):
    for first in firsts(cluster):
        cluster.lease(first, 4 * cluster.clock_bound + 4)
    act(index)
    exchange(cluster)
    copy(cluster)
    cluster.tick(2 * cluster.clock_bound + 1)


def handle_client(cluster, index, most=99):
    """Handle a client by rounds, and return their number."""
    client = cluster.client(index)
    rounds = 0
    while client.phase != "ended" and rounds < most:
        round_of(cluster, cluster.push, index)
        rounds += 1
    for first in firsts(cluster):
        cluster.ask(first, client.txn)
    for _ in range(2):
        exchange(cluster)
        copy(cluster)
    return rounds


def handle_reader(cluster, index, most=99):
    """Handle a reader by rounds, and return their number."""
    rounds = 0
    while cluster.reader(index).phase != "ended" and rounds < most:
        round_of(cluster, cluster.look, index)
        rounds += 1
    return rounds


def run_smoothly(cluster):
    """Run a new cluster smoothly; return the numbers of rounds of its clients and of its readers."""
    begin(cluster)
    return ([handle_client(cluster, index) for index in range(cluster.many_clients)],
            [handle_reader(cluster, index) for index in range(cluster.many_readers)])
