"""The demand of intervals, and what faults can add to it."""
from faultdue.recovery import prices_of, worst
from faultdue.systems import horizon_of, latest_of, longest_segments, work_of


def bodies(task, s, e):
    """How many bodies of a task lie in the interval (s, e), by an arrival as early and often as can be (d1)."""
    first, gap, due = task[2:5]
    room = e - max(s, first) - due
    return 1 + room // gap if room >= 0 else 0


def jobs_in(system, s, e):
    """The jobs that lie in the interval (s, e)."""
    return [job for job in system[2] if job[2] >= s and job[3] <= e]


def demand(system, s, e):
    """The work of all jobs and bodies in the interval (s, e) (d1)."""
    of_jobs = sum([work_of(job) for job in jobs_in(system, s, e)])
    return of_jobs + sum([bodies(task, s, e) * work_of(task) for task in system[3]])


def penalties(system, s, e):
    """For each source the longest segment with it of the jobs and bodies in the interval (s, e) (d1)."""
    inside = [task for task in system[3] if bodies(task, s, e) > 0]
    return longest_segments(len(system[1]), jobs_in(system, s, e) + inside)


def analysis(system, s, e):
    """Demand, recovery, slack, the faults of the worst recovery and the prices of the interval (s, e)."""
    budgets = system[1]
    asked = demand(system, s, e)
    longest = penalties(system, s, e)
    recovery, faults = worst(budgets, longest)
    return asked, recovery, e - s - asked - recovery, faults, prices_of(budgets, longest)


def ends_of(system, s, most):
    """The ends of s up to most (d2), ascending, each once."""
    found = [job[3] for job in system[2] if job[2] >= s and job[3] <= most]
    for _, _, first, gap, due, _ in system[3]:
        found.extend(list(range(max(s, first) + due, most + 1, gap)))
    return sorted(set(found))


def loads_of(system):
    """For each job and then each task: itself, its work, and for each source its longest segment."""
    many = len(system[1])
    return [(item, work_of(item), longest_segments(many, [item])) for item in system[2] + system[3]]


def intervals_of(system):
    """(s, e, demand, penalties) of all intervals of d2, s ascending, then e."""
    horizon = horizon_of(system)
    loads = loads_of(system)
    nothing = (0,) * len(system[1])
    found = []
    for s in range(latest_of(system) + 1):
        found.extend(intervals_from(loads, nothing, s, s + horizon))
    return found


def intervals_from(loads, longest, s, most):
    """(s, e, demand, penalties) for each end e of s up to most, e ascending; the penalties begin with longest.

    From one end to the next only what comes in is added: to ask demand and penalties for each end anew takes too
    long where there are many.
    """
    total = 0
    seen = set()
    found = {}
    for e, k in comers_of(loads, s, most):
        _, work, own = loads[k]
        total += work
        if k not in seen:
            seen.add(k)
            longest = tuple([max(pair) for pair in zip(longest, own)])
        found[e] = (s, e, total, longest)
    return list(found.values())


def comers_of(loads, s, most):
    """The times up to most at which a job or a body comes in as an interval from s grows, with the load's index."""
    found = []
    for k, (item, _, _) in enumerate(loads):
        if item[0] == "task":
            found.extend([(e, k) for e in range(max(s, item[2]) + item[4], most + 1, item[3])])
        elif item[2] >= s and item[3] <= most:
            found.append((item[3], k))
    return sorted(found)
