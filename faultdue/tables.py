"""Tables of systems: each number with its margin."""
from faultdue.admission import is_fit, tightest
from faultdue.margins import earliest_due, greatest_capacity, least_gap, longest_length


def table(system):
    """The table of a system (h4)."""
    if not is_fit(system):
        return "not sure\n"
    _, budgets, jobs, tasks = system
    lines = tightest_lines(system)
    for k, (name, capacity, _) in enumerate(budgets):
        lines.append(f"budget {name} {capacity} up to {greatest_capacity(system, k)}")
    for k, job in enumerate(jobs):
        lines.append(f"job {job[1]} {dues_and_lengths(system, job, k)}")
    for k, task in enumerate(tasks):
        gap = f"gap {task[3]} down to {least_gap(system, k)}"
        lines.append(f"task {task[1]} {gap}, {dues_and_lengths(system, task, k)}")
    return "".join([f"{line}\n" for line in lines])


def tightest_lines(system):
    """The line of the tightest interval, in a list; none if there is no interval."""
    found = tightest(system)
    if found == ():
        return []
    s, e, slack = found
    return [f"tightest {s} to {e} slack {slack}"]


def dues_and_lengths(system, item, index):
    """What the line of a job or task tells of its due and its segments."""
    kind = item[0]
    due = item[3] if kind == "job" else item[4]
    parts = [f"due {due} down to {earliest_due(system, kind, index)}"]
    for k, (length, _) in enumerate(item[5]):
        parts.append(f"{length} up to {longest_length(system, kind, index, k)}")
    return ", ".join(parts)
