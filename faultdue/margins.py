"""How far each number of a system can be moved so that it is fit."""
from faultdue.admission import is_fit
from faultdue.budgets import MOST_CAPACITY
from faultdue.systems import MOST_TIME

# Where a system has its jobs and its tasks.
JOBS = 2
TASKS = 3


def longest_length(system, kind, index, segment):
    """The longest length of a segment with which the system is fit (g2); -1 if it is not fit as it is."""
    field = JOBS if kind == "job" else TASKS
    segments = system[field][index][5]
    length, source = segments[segment]
    return greatest_fit(
        length,
        MOST_TIME,
        lambda number: with_number(system, field, index, 5, put(segments, segment, (number, source))),
    )


def earliest_due(system, kind, index):
    """The earliest due of a job or task with which the system is fit (g2), -1 if there is none."""
    if kind == "job":
        release = system[JOBS][index][2]
        return least_fit(release, MOST_TIME, lambda number: with_number(system, JOBS, index, 3, number))
    return least_fit(0, MOST_TIME, lambda number: with_number(system, TASKS, index, 4, number))


def greatest_capacity(system, budget):
    """The greatest capacity of a budget with which the system is fit (g2), -1 if there is none."""
    return greatest_fit(0, MOST_CAPACITY, lambda number: with_number(system, 1, budget, 1, number))


def least_gap(system, index):
    """The least gap of a task with which the system is fit (g2), -1 if there is none."""
    return least_fit(1, MOST_TIME, lambda number: with_number(system, TASKS, index, 3, number))


def longest_new(system, release, due, source):
    """The greatest length of a job of one segment with which, put in, the system is fit (g2), -1 if there is none."""
    word, budgets, jobs, tasks = system
    return greatest_fit(
        1,
        MOST_TIME,
        lambda number: (word, budgets, jobs + (("job", "new", release, due, 0, ((number, source),)),), tasks),
    )


def with_number(system, field, index, place, value):
    """The system with another value at a place of one of its budgets, jobs or tasks."""
    return put(system, field, put(system[field], index, put(system[field][index], place, value)))


def put(row, at, value):
    """The tuple with another value at an index."""
    return row[:at] + (value,) + row[at + 1:]


def greatest_fit(low, high, changed):
    """The greatest number from low to high with which the changed system is fit, -1 if there is none."""
    if not is_fit(changed(low)):
        return -1
    # With lesser ones it is fit, too (g3), so the border can be halved out.
    while low < high:
        middle = (low + high + 1) // 2
        if is_fit(changed(middle)):
            low = middle
        else:
            high = middle - 1
    return low


def least_fit(low, high, changed):
    """The least number from low to high with which the changed system is fit, -1 if there is none."""
    if not is_fit(changed(high)):
        return -1
    while low < high:
        middle = (low + high) // 2
        if is_fit(changed(middle)):
            high = middle
        else:
            low = middle + 1
    return low
