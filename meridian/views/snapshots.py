"""What replicas know without their leader, and snapshots of a cluster (point 55)."""

from meridian.clients.routing import group_of_key
from meridian.errors import Refused


def known_time(cluster, node):
    """Return the time up to which a replica knows its group, or None if it is down."""
    service = cluster.service(node)
    if not cluster.fabric.is_up(node):
        return None
    return service.sure_state().settled


def peek(cluster, node, key, time):
    """Return (True, value) if a replica knows the value of a key at a time; otherwise (False, None)."""
    known = known_time(cluster, node)
    if known is None or time > known or group_of_key(cluster.cuts, key) != cluster.fabric.group_of(node):
        return (False, None)
    return (True, cluster.service(node).sure_state().cells.value_at(key, time))


def settled_time(cluster):
    """Return the time up to which a replica that is up knows each group."""
    known = []
    for group in range(cluster.fabric.groups):
        node = best_replica(cluster, group)
        known.append(0 if node is None else known_time(cluster, node))
    return min(known)


def best_replica(cluster, group):
    """Return the first one of the replicas that know most of their group, or None if all are down."""
    best = None
    most = None
    for node in cluster.fabric.members(group):
        known = known_time(cluster, node)
        if known is not None and (most is None or known > most):
            best, most = node, known
    return best


def snapshot(cluster, time):
    """Return the pairs (key, value) of all keys that have a value at a time."""
    if time > settled_time(cluster):
        raise Refused("the cluster is not settled up to this time")
    # Of a group that is down nothing is asked then, because no key has a value.
    if time < 1:
        return []
    rows = []
    for group in range(cluster.fabric.groups):
        rows.extend(best_cells(cluster, group).rows_at(time))
    return sorted(rows)


def best_cells(cluster, group):
    """Return the cell store of the best replica of a group that is not down."""
    return cluster.service(best_replica(cluster, group)).sure_state().cells
