"""Which group keeps a key (point 45)."""

from meridian.wire.rows import encode_keys


def check_cuts(cuts):
    """Raise BadArgument unless these are cuts."""
    # Encoded only because that finds every wrong key and every wrong order.
    encode_keys(cuts)


def group_of_key(cuts, key):
    """Return the number of the group that keeps a key."""
    return len([cut for cut in cuts if cut <= key])
