"""Charts of runs, a line for each item and a mark for each time."""
from faultdue.plans import items_of
from faultdue.schedules import run_of


def chart(system, arrivals, plan):
    """The chart of the run under the arrivals and the plan (h2)."""
    items = items_of(system, arrivals)
    slices, ends, late = run_of(system, arrivals, plan)
    stretches = stretches_of(len(items), slices, plan)
    names = names_of(system, arrivals)
    width = max([len(name) for name in names], default=0)
    last = max([item[1] for item in items] + list(ends), default=0)
    lines = []
    for k, item in enumerate(items):
        marks = executed_over(waiting_marks(item, ends[k], last), stretches[k])
        tail = " late" if k in late else ""
        lines.append(f"{names[k].ljust(width)} {marks}{tail}\n")
    return "".join(lines)


def names_of(system, arrivals):
    """The names of the items: those of the jobs, and of each body its task's with a point and its number."""
    names = [job[1] for job in system[2]]
    for task, releases in zip(system[3], arrivals):
        names.extend([f"{task[1]}.{k}" for k in range(len(releases))])
    return names


def stretches_of(many, slices, plan):
    """For each of so many items (start, end, mark) of its slices."""
    counts = {(item, segment): count for item, segment, count in plan}
    found = [[] for _ in range(many)]
    for start, end, item, segment, attempt in slices:
        mark = "x" if attempt < counts.get((item, segment), 0) else "#"
        found[item].append((start, end, mark))
    return found


def waiting_marks(item, end, last):
    """The marks of an item that ends then, for the times from 0 to last, as if it were never executed."""
    release, due = item[:2]
    marks = "." * release + "-" * (min(due, end) - release)
    if end > due:
        marks = marks + "!" * (end - due)
    else:
        marks = marks + "." * (due - end) + "|"
    return marks.ljust(last + 1, ".")


def executed_over(marks, stretches):
    """The marks with those of the stretches in their places."""
    pieces = []
    time = 0
    for start, end, mark in stretches:
        pieces.append(marks[time:start] + mark * (end - start))
        time = end
    return "".join(pieces) + marks[time:]
