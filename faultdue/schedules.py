"""The run of a system, the verdict on a schedule, and the worst arrivals and plan of an interval."""
from heapq import heappop, heappush

from faultdue.demand import analysis, bodies, penalties
from faultdue.plans import items_of, needs


def run_of(system, arrivals, plan):
    """The slices, the ends and the late items of the run, earliest due first (e3, e4)."""
    items = items_of(system, arrivals)
    slices = slices_of(items, attempts_of(items, plan))
    # An item without a slice needs nothing: it ends at its release.
    ends = [release for release, _, _, _ in items]
    for _, end, item, _, _ in slices:
        ends[item] = end
    late = [k for k, end in enumerate(ends) if end > items[k][1]]
    return tuple(slices), tuple(ends), tuple(late)


def attempts_of(items, plan):
    """For each item the attempts that it needs under the plan, (segment, attempt, units left), the last one first."""
    counts = {(item, segment): count for item, segment, count in plan}
    found = []
    for k, (_, _, done, segments) in enumerate(items):
        attempts = []
        for segment, (length, _) in enumerate(segments):
            for attempt in range(counts.get((k, segment), 0) + 1):
                left = length - done if segment == 0 and attempt == 0 else length
                # Of the present attempt perhaps nothing is left: then it has no slice.
                if left > 0:
                    attempts.append((segment, attempt, left))
        found.append(attempts[::-1])
    return found


def slices_of(items, attempts):
    """The slices of the run; the attempts are taken out of their lists as they are executed."""
    # The last ones are the next ones, because they are the ones that can be taken off a list at once.
    coming = sorted([(items[at][0], at) for at, needed in enumerate(attempts) if needed], reverse=True)
    ready = []
    slices = []
    now = 0
    while coming or ready:
        if not ready:
            now = coming[-1][0]
        while coming and coming[-1][0] <= now:
            _, k = coming.pop()
            heappush(ready, (items[k][1], k))
        _, k = ready[0]
        segment, attempt, left = attempts[k].pop()
        # Whoever comes next can be due earlier.
        end = min(now + left, coming[-1][0]) if coming else now + left
        if end < now + left:
            attempts[k].append((segment, attempt, now + left - end))
        if not attempts[k]:
            heappop(ready)
        add_slice(slices, now, end, (k, segment, attempt))
        now = end
    return slices


def add_slice(slices, start, end, what):
    """Put a slice of an item, segment and attempt behind the others, or make the last one longer if it goes on."""
    if slices and slices[-1][1:] == (start, *what):
        start = slices.pop()[0]
    slices.append((start, end, *what))


def verdict(system, arrivals, plan, schedule):
    """What is wrong first with the schedule under the arrivals and the plan, or that it is good (e5)."""
    items = items_of(system, arrivals)
    needed = needs(system, arrivals, plan)
    whole, timely = [0] * len(items), [0] * len(items)
    for start, end, item in schedule:
        whole[item] += end - start
        timely[item] += max(0, min(end, items[item][1]) - start)
    early = [item for start, _, item in schedule if start < items[item][0]]
    short = [k for k, units in enumerate(whole) if units < needed[k]]
    late = [k for k, units in enumerate(timely) if units < needed[k]]
    for word, found in (("overlap", first_overlap(schedule)), ("early", early), ("short", short), ("late", late)):
        if found:
            return (word, min(found))
    return ("good", -1)


def first_overlap(schedule):
    """The index of the first period that begins before the end of one ahead of it, in a list; none if there is none."""
    until = 0
    for k, (start, end, _) in enumerate(schedule):
        if start < until:
            return [k]
        until = max(until, end)
    return []


def worst_of(system, s, e):
    """The arrivals and the plan that are the worst of the interval (s, e) (e6)."""
    arrivals = tuple([releases_in(task, s, e) for task in system[3]])
    inside = [
        (k, segments)
        for k, (release, due, _, segments) in enumerate(items_of(system, arrivals))
        if release >= s and due <= e
    ]
    faults = analysis(system, s, e)[3]
    plan = []
    for source, (count, length) in enumerate(zip(faults, penalties(system, s, e))):
        if count > 0:
            longest = (length, source)
            item, segments = min([row for row in inside if longest in row[1]])
            plan.append((item, segments.index(longest), count))
    return arrivals, tuple(sorted(plan))


def releases_in(task, s, e):
    """The releases of the bodies of a task that lie in the interval (s, e), as early and often as can be."""
    start, gap = max(s, task[2]), task[3]
    return tuple([start + k * gap for k in range(bodies(task, s, e))])
