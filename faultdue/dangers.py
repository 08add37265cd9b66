"""The fewest faults with which a system can be late."""
from faultdue.budgets import most_faults
from faultdue.demand import intervals_of
from faultdue.recovery import in_turn, worst


def least_faults(system):
    """(s, e, faults) of the first interval that is crowded with the fewest faults; () if the system is sure (f1)."""
    budgets = system[1]
    known = {}
    found = ()
    for s, e, asked, longest in intervals_of(system):
        # Most intervals have the penalties of another one.
        if longest not in known:
            known[longest] = recoveries_of(budgets, longest)
        recoveries = known[longest]
        room = e - s - asked
        if recoveries[-1] > room:
            fewest = first_above(recoveries, room)
            if found == () or fewest < found[2]:
                found = (s, e, fewest, longest)
    if found == ():
        return ()
    s, e, fewest, longest = found
    return s, e, first_faults(budgets, longest, fewest)


def sources_of(budgets, penalties):
    """The sources of the worst recovery's faults one by one, greater penalties first."""
    faults = worst(budgets, penalties)[1]
    found = []
    for source in in_turn(penalties):
        found.extend([source] * faults[source])
    return found


def recoveries_of(budgets, penalties):
    """The greatest recoveries of 0, 1, .. faults, as many as add something; they ascend."""
    total = 0
    found = [0]
    for source in sources_of(budgets, penalties):
        total += penalties[source]
        found.append(total)
    return found


def first_above(numbers, room):
    """The index of the first number above the room; there is one."""
    return [number > room for number in numbers].index(True)


def first_faults(budgets, penalties, many):
    """The assignment of so many faults with the greatest recovery."""
    faults = [0] * len(budgets)
    for source in sources_of(budgets, penalties)[:many]:
        faults[source] += 1
    return tuple(faults)


def bearable(system):
    """The most faults with which no interval is crowded, wherever they are (f1)."""
    least = least_faults(system)
    if least:
        return sum(least[2]) - 1
    return most_faults(system[1], tuple(range(len(system[1]))))
