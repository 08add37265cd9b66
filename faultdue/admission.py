"""Whether a system is sure, and the paper that tells it."""
from faultdue.demand import analysis, bodies, intervals_of, loads_of
from faultdue.errors import BadSystem
from faultdue.recovery import prices_of, worst
from faultdue.systems import check_system, horizon_of


def is_fit(system):
    """Does check_system let the system, and is it sure (g1)?"""
    try:
        check_system(system)
    except BadSystem:
        return False
    return is_sure(system)


def is_sure(system):
    """Is no interval crowded (d2)?"""
    budgets = system[1]
    horizon = horizon_of(system)
    loads = loads_of(system)
    recoveries = {}
    # A start that is no release and no first need not be looked at: an interval as long from the next one on has all
    # that it has. The same jobs and tasks are still to come, more of them are in it, and what the tasks that could
    # come ahead of it have in it hangs on its length alone.
    for s in sorted({item[2] for item, _, _ in loads}):
        if not is_clear(budgets, loads, s, horizon, recoveries):
            return False
    return True


def is_clear(budgets, loads, s, horizon, recoveries):
    """Is no interval crowded that begins at s and is at most as long as the horizon?

    The recoveries that are found are kept in a dict by their penalties: other starts have the same ones.
    """
    tasks = [(item, work) for item, work, _ in loads if item[0] == "task"]
    stairs = stairs_of(loads, (0,) * len(budgets), s)
    length = horizon
    while stairs:
        least, asked, longest = stairs[-1]
        if least > length:
            stairs.pop()
            continue
        if longest not in recoveries:
            recoveries[longest] = worst(budgets, longest)[0]
        asked += recoveries[longest] + sum([bodies(task, s, s + length) * work for task, work in tasks])
        if asked > length:
            return False
        # A shorter interval asks for no more than this one, so none that is at least so long is crowded.
        length = asked - 1
    return True


def stairs_of(loads, longest, s):
    """What intervals from s have from a length on: (length, work of the jobs, penalties), the length ascending.

    The penalties are those of the bodies, too, beginning with those that are handed in as longest.
    """
    coming = []
    for k, (item, work, own) in enumerate(loads):
        if item[0] == "task":
            coming.append((max(s, item[2]) + item[4] - s, k, 0, own))
        elif item[2] >= s:
            coming.append((item[3] - s, k, work, own))
    total = 0
    stairs = []
    for length, _, work, own in sorted(coming):
        total += work
        longest = tuple([max(pair) for pair in zip(longest, own)])
        stairs.append((length, total, longest))
    return stairs


def slacks_of(system):
    """(s, e, slack) of all intervals of d2, s ascending, then e."""
    budgets = system[1]
    recoveries = {}
    found = []
    for s, e, asked, longest in intervals_of(system):
        if longest not in recoveries:
            recoveries[longest] = worst(budgets, longest)[0]
        found.append((s, e, e - s - asked - recoveries[longest]))
    return found


def tightest(system):
    """(s, e, slack) of the first interval of d2 with the least slack; () if there is no interval."""
    return min(slacks_of(system), key=lambda row: row[2], default=())


def crowded(system):
    """(s, e, slack) of all crowded intervals of d2, s ascending, then e."""
    return [row for row in slacks_of(system) if row[2] < 0]


def paper_of(system):
    """A paper that holds for the system (p2)."""
    if is_sure(system):
        return ("sure", rows_of(system))
    s, e, _ = crowded(system)[0]
    return ("unsure", s, e, analysis(system, s, e)[3])


def rows_of(system):
    """The prices of the penalties of all intervals of d2, each once, in the order in which they come first."""
    # A dict keeps the order, and most intervals have the penalties of another one.
    penalties_once = {longest: True for _, _, _, longest in intervals_of(system)}
    rows = {prices_of(system[1], longest): True for longest in penalties_once}
    return tuple(rows)
