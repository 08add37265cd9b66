"""What is active at a desk, and what becomes of it.

An active job is (job, segment, attempt): what remains of it as a job of a system, how many of its segments are
finished, and how many attempts of the present one were faulty. An active task is (task, many): the task with the time
from which on its next body can come, and how many of its bodies have come.
"""
from faultdue.budgets import is_within, remaining
from faultdue.margins import put
from faultdue.schedules import add_slice
from faultdue.systems import MOST_TIME

RELEASE = 2
DONE = 4


def index_of(rows, name):
    """The index of the active job or task with this name, -1 if there is none."""
    names = [row[0][1] for row in rows]
    return names.index(name) if name in names else -1


def remaining_system(now, budgets, jobs, tasks):
    """The remaining system of a desk with these active jobs and tasks (k2)."""
    left = [from_now(job, now) for job, _, _ in jobs]
    coming = [from_now(task, now) for task, _ in tasks]
    # No body of a later one can come any more.
    coming = [task for task in coming if task[RELEASE] <= MOST_TIME]
    return ("system", budgets, tuple(left), tuple(coming))


def from_now(item, now):
    """The job or task with a release or first of at least now."""
    return put(item, RELEASE, max(item[RELEASE], now))


def with_item(system, item):
    """The system with one more job or task, behind the others."""
    word, budgets, jobs, tasks = system
    if item[0] == "job":
        return (word, budgets, jobs + (item,), tasks)
    return (word, budgets, jobs, tasks + (item,))


def body_of(row, now):
    """The active job that the next body of an active task is if it comes now, and the active task behind it (k4)."""
    task, many = row
    _, name, _, gap, due, segments = task
    body = ("job", f"{name}.{many}", now, now + due, 0, segments)
    return (body, 0, 0), (put(task, RELEASE, now + gap), many + 1)


def run_jobs(jobs, now, until):
    """Run the active jobs, earliest due first, from now until then or to the end of an attempt (k6).

    Given back are the jobs behind it, the time, the name of the job whose attempt has ended, "" if none has, and the
    slices.
    """
    slices = []
    while now < until:
        at, end = next_stretch(jobs, now, until)
        if at >= 0:
            job, segment, attempt = jobs[at]
            add_slice(slices, now, end, (job[1], segment, attempt))
            job = put(job, DONE, job[DONE] + end - now)
            jobs = put(jobs, at, (job, segment, attempt))
            if left_of(job) == 0:
                return jobs, end, job[1], tuple(slices)
        now = end
    return jobs, now, "", tuple(slices)


def next_stretch(jobs, now, until):
    """The index of the active job that is executed from now on, -1 if none is, and until when it surely is."""
    # Whoever is released next can be due earlier.
    end = min([job[RELEASE] for job, _, _ in jobs if job[RELEASE] > now] + [until])
    ready = [(job[3], k) for k, (job, _, _) in enumerate(jobs) if job[RELEASE] <= now]
    if not ready:
        return -1, end
    at = min(ready)[1]
    return at, min(end, now + left_of(jobs[at][0]))


def left_of(job):
    """How much of the present attempt of the job is not executed yet."""
    return job[5][0][0] - job[DONE]


def behind_report(row, faulty):
    """The active job behind a report on its present attempt, () if it has finished (k6)."""
    job, segment, attempt = row
    if faulty:
        return put(job, DONE, 0), segment, attempt + 1
    if len(job[5]) == 1:
        return ()
    return job[:DONE] + (0, job[5][1:]), segment + 1, 0


def behind_fault(budgets, source):
    """The budgets behind a fault with this source, () if they do not allow it."""
    faults = put((0,) * len(budgets), source, 1)
    return remaining(budgets, faults) if is_within(budgets, faults) else ()
