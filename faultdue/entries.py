"""The entries of a desk's log, and the things that they admit."""
from faultdue.kinds import is_row
from faultdue.systems import is_job, is_task

MOST_ENTRIES = 500
# How many values an entry has, its kind among them.
SIZES = {"admit": 2, "arrive": 2, "cancel": 2, "grant": 3, "run": 2, "report": 2}


def is_entry(value):
    """Has the value the kind and the size of an entry (k8)? What stands in it the desk looks at itself."""
    if not is_row(value, 2, 3) or not isinstance(value[0], str) or len(value) != SIZES.get(value[0], 0):
        return False
    return value[0] != "report" or isinstance(value[1], bool)


def is_thing(value, many):
    """Is this a job or task to be admitted, by s1 to s3, with sources among so many budgets (k3)?"""
    if is_row(value, 5, 5) and value[0] == "job":
        return is_job(item_of(value), many)
    return is_task(value, many)


def item_of(thing):
    """The job or task of a system that an admitted thing is, nothing of it done (k3)."""
    return thing[:4] + (0,) + thing[4:] if thing[0] == "job" else thing


def thing_of(item):
    """The thing to admit that a job or task is, whatever of it is done."""
    return item[:4] + item[5:] if item[0] == "job" else item
