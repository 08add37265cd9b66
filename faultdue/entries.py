"""The entries of a desk's log, and the things that they admit."""

MOST_ENTRIES = 500


def item_of(thing):
    """The job or task of a system that an admitted thing is, nothing of it done (k3)."""
    return thing[:4] + (0,) + thing[4:] if thing[0] == "job" else thing


def thing_of(item):
    """The thing to admit that a job or task is, whatever of it is done."""
    return item[:4] + item[5:] if item[0] == "job" else item
