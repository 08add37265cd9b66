"""Systems of jobs and tasks: what is one, and the numbers that bound where to look."""
from math import gcd

from faultdue.budgets import are_budgets
from faultdue.errors import BadSystem
from faultdue.kinds import is_between, is_item_name, is_row
from faultdue.recovery import worst

MOST_TIME = 1000
MOST_SEGMENTS = 6
MOST_JOBS = 40
MOST_TASKS = 5
MOST_SIZE = 100000


def check_system(system):
    """Raise BadSystem unless this is a system that the library takes (s5)."""
    if not has_shape(system):
        raise BadSystem(0, "not a system")
    top, bottom = rate_of(system)
    if top >= bottom:
        raise BadSystem(0, "too full")
    if size_of(system) > MOST_SIZE:
        raise BadSystem(0, "too great")


def has_shape(system):
    """Is this a system by s1 to s3?"""
    if not is_row(system, 4, 4):
        return False
    word, budgets, jobs, tasks = system
    if word != "system" or not are_budgets(budgets):
        return False
    if not is_row(jobs, 0, MOST_JOBS) or not is_row(tasks, 0, MOST_TASKS):
        return False
    many = len(budgets)
    if not all([is_job(job, many) for job in jobs]) or not all([is_task(task, many) for task in tasks]):
        return False
    return len({item[1] for item in jobs + tasks}) == len(jobs) + len(tasks)


def is_job(job, many):
    """Is this a job (s2), its segments with sources among so many budgets?"""
    if not is_row(job, 6, 6):
        return False
    word, name, release, due, done, segments = job
    if word != "job" or not is_item_name(name) or not are_segments(segments, many):
        return False
    if not is_between(release, 0, MOST_TIME) or not is_between(due, release, MOST_TIME):
        return False
    return is_between(done, 0, segments[0][0])


def is_task(task, many):
    """Is this a task (s2), its segments with sources among so many budgets?"""
    if not is_row(task, 6, 6):
        return False
    word, name, first, gap, due, segments = task
    if word != "task" or not is_item_name(name) or not are_segments(segments, many):
        return False
    return is_between(first, 0, MOST_TIME) and is_between(gap, 1, MOST_TIME) and is_between(due, 0, MOST_TIME)


def are_segments(segments, many):
    """Are these the segments of a job or task, with sources among so many budgets?"""
    return is_row(segments, 1, MOST_SEGMENTS) and all([is_segment(segment, many) for segment in segments])


def is_segment(segment, many):
    """Is this a segment (s1), with a source among so many budgets?"""
    if not is_row(segment, 2, 2):
        return False
    length, source = segment
    return is_between(length, 1, MOST_TIME) and is_between(source, 0, many - 1)


def work_of(item):
    """The work of a job, or of one body of a task (s3)."""
    total = sum([length for length, _ in item[5]])
    return total - item[4] if item[0] == "job" else total


def rate_of(system):
    """The rate of a system in lowest terms, numerator and denominator (s4)."""
    top, bottom = 0, 1
    for task in system[3]:
        gap = task[3]
        top = top * gap + work_of(task) * bottom
        bottom = bottom * gap
    shared = gcd(top, bottom)
    return top // shared, bottom // shared


def latest_of(system):
    """The greatest release of a job or first of a task, 0 if there is none (s4)."""
    return max([item[2] for item in system[2] + system[3]], default=0)


def longest_segments(many, items):
    """For each of so many sources the longest segment with it of the items, 0 if there is none."""
    longest = [0] * many
    for item in items:
        for length, source in item[5]:
            longest[source] = max(longest[source], length)
    return tuple(longest)


def horizon_of(system):
    """The horizon of a system with a rate below 1 (s4)."""
    budgets = system[1]
    items = system[2] + system[3]
    recovery, _ = worst(budgets, longest_segments(len(budgets), items))
    load = sum([work_of(item) for item in items]) + recovery
    top, bottom = rate_of(system)
    spare = bottom - top
    return (load * bottom + spare - 1) // spare


def size_of(system):
    """What tells whether a system is too great (s4): how many intervals there can be to look at."""
    horizon = horizon_of(system)
    ends = len(system[2]) + 1 + sum([1 + horizon // task[3] for task in system[3]])
    return (latest_of(system) + 1) * ends
