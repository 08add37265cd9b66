"""Budgets of faults, and assignments of faults to them."""
from faultdue.errors import BadSystem
from faultdue.kinds import is_between, is_name, is_row

MOST_BUDGETS = 6
MOST_CAPACITY = 20


def check_budgets(budgets):
    """Raise BadSystem unless these are budgets (b1)."""
    if not are_budgets(budgets):
        raise BadSystem(0, "not budgets")


def are_budgets(budgets):
    """Are these budgets (b1)?"""
    if not is_row(budgets, 1, MOST_BUDGETS):
        return False
    if not all([is_budget(budget, k) for k, budget in enumerate(budgets)]):
        return False
    return len({budget[0] for budget in budgets}) == len(budgets)


def is_budget(budget, k):
    """Can this stand among budgets at the index k?"""
    if not is_row(budget, 3, 3):
        return False
    name, capacity, parent = budget
    return is_name(name) and is_between(capacity, 0, MOST_CAPACITY) and is_between(parent, -1, k - 1)


def above(budgets, k):
    """The indices of the budgets above k, the nearest first (b1)."""
    found = []
    parent = budgets[k][2]
    while parent >= 0:
        found.append(parent)
        parent = budgets[parent][2]
    return found


def with_above(budgets, k):
    """The index k and those of the budgets above it: all that a fault of the source k uses."""
    return [k] + above(budgets, k)


def children_of(budgets, k):
    """The indices of the budgets whose parent is k; for -1, of those without a parent."""
    return [child for child, budget in enumerate(budgets) if budget[2] == k]


def used(budgets, faults):
    """How much of each budget an assignment uses (b2)."""
    totals = list(faults)
    # A parent stands ahead of its children: from the back, a total is complete when it is added to its parent.
    for k in reversed(range(len(budgets))):
        parent = budgets[k][2]
        if parent >= 0:
            totals[parent] += totals[k]
    return tuple(totals)


def is_within(budgets, faults):
    """Is the assignment within the budgets (b2)?"""
    return all([total <= budget[1] for total, budget in zip(used(budgets, faults), budgets)])


def remaining(budgets, faults):
    """The budgets that are left behind an assignment that is within them (b2)."""
    totals = used(budgets, faults)
    return tuple([(name, capacity - totals[k], parent) for k, (name, capacity, parent) in enumerate(budgets)])


def most_in_parts(budgets, sources):
    """For each budget the most faults of the sources in its part, whatever the budgets above it allow."""
    most = [0] * len(budgets)
    # From the back, because a part's children have to be summed up before it is bounded itself.
    for k in reversed(range(len(budgets))):
        capacity, parent = budgets[k][1:]
        most[k] = capacity if k in sources else min(capacity, most[k])
        if parent >= 0:
            most[parent] += most[k]
    return most


def most_faults(budgets, sources):
    """The most faults of these sources that are within the budgets (b3)."""
    most = most_in_parts(budgets, sources)
    return sum([most[root] for root in children_of(budgets, -1)])
