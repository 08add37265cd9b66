"""Arrivals of a system, plans of faults, and what the items need under them."""
from faultdue.errors import BadPlan
from faultdue.kinds import is_between, is_row

MOST_RELEASE = 1000000
MOST_COUNT = 20


def check_arrivals(system, arrivals):
    """Raise BadPlan unless these are arrivals of the system (e1)."""
    tasks = system[3]
    if not is_row(arrivals, len(tasks), len(tasks)):
        raise BadPlan(0)
    for place, (task, releases) in enumerate(zip(tasks, arrivals)):
        if not are_releases(task, releases):
            raise BadPlan(place)


def are_releases(task, releases):
    """Can the bodies of the task come at these times?"""
    if not isinstance(releases, tuple):
        return False
    least, gap = task[2:4]
    for release in releases:
        if not is_between(release, least, MOST_RELEASE):
            return False
        least = release + gap
    return True


def check_plan(system, arrivals, plan):
    """Raise BadPlan unless this is a plan for the items of the system with these arrivals (e2)."""
    if not isinstance(plan, tuple):
        raise BadPlan(0)
    items = items_of(system, arrivals)
    last = (-1, -1)
    for place, triple in enumerate(plan):
        if not is_triple(items, triple) or triple[:2] <= last:
            raise BadPlan(place)
        last = triple[:2]


def is_triple(items, triple):
    """Does it tell a segment of an item, and a number of attempts?"""
    if not is_row(triple, 3, 3):
        return False
    item, segment, count = triple
    if not is_between(item, 0, len(items) - 1) or not is_between(count, 1, MOST_COUNT):
        return False
    return is_between(segment, 0, len(items[item][3]) - 1)


def items_of(system, arrivals):
    """(release, due, done, segments) of the jobs and then of the bodies, task by task (e1)."""
    items = [job[2:] for job in system[2]]
    for task, releases in zip(system[3], arrivals):
        items.extend([(release, release + task[4], 0, task[5]) for release in releases])
    return items


def needs(system, arrivals, plan):
    """What each item needs under the plan (e2)."""
    items = items_of(system, arrivals)
    needed = [sum([length for length, _ in segments]) - done for _, _, done, segments in items]
    for item, segment, count in plan:
        needed[item] += count * items[item][3][segment][0]
    return needed


def faults_of(system, arrivals, plan):
    """The faults of the plan, an assignment (e2)."""
    items = items_of(system, arrivals)
    faults = [0] * len(system[1])
    for item, segment, count in plan:
        faults[items[item][3][segment][1]] += count
    return tuple(faults)
