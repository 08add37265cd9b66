"""The worst recovery of penalties under budgets, and prices that prove it."""
from faultdue.budgets import above, children_of, most_in_parts, with_above


def worst(budgets, penalties):
    """The worst recovery and the assignment that reaches it (b4)."""
    left = [budget[1] for budget in budgets]
    faults = [0] * len(budgets)
    for source in in_turn(penalties):
        path = with_above(budgets, source)
        faults[source] = min([left[k] for k in path])
        for k in path:
            left[k] -= faults[source]
    return recovery_of(penalties, faults), tuple(faults)


def in_turn(penalties):
    """The sources with a penalty above 0, greater penalties first, of equal ones the lower index."""
    sources = [k for k, penalty in enumerate(penalties) if penalty > 0]
    return sorted(sources, key=lambda k: (-penalties[k], k))


def recovery_of(penalties, faults):
    """The recovery of an assignment (b4)."""
    return sum([penalty * count for penalty, count in zip(penalties, faults)])


def prices_of(budgets, penalties):
    """Prices that cover the penalties and whose bound is the worst recovery (b6)."""
    prices = [0] * len(budgets)
    done = 0
    # The levels above one penalty, up to the next greater one, have the same open sources: they are taken at once.
    for level in sorted({penalty for penalty in penalties if penalty > 0}):
        sources = [k for k, penalty in enumerate(penalties) if penalty >= level]
        for k in cut_budgets(budgets, sources):
            prices[k] += level - done
        done = level
    return tuple(prices)


def cut_budgets(budgets, sources):
    """The budgets that are cut at a level whose open sources are these (b6)."""
    most = most_in_parts(budgets, sources)
    # Whether a part has an open source cannot be told by its most faults: capacities can be 0.
    touched = list(sources)
    for source in sources:
        touched.extend(above(budgets, source))
    found = []
    ahead = children_of(budgets, -1)
    while ahead:
        k = ahead.pop()
        children = children_of(budgets, k)
        if k not in touched:
            continue
        if k in sources or budgets[k][1] <= sum([most[child] for child in children]):
            found.append(k)
        else:
            ahead.extend(children)
    return found


def bound_of(budgets, penalties, prices):
    """The bound of prices (b5), or -1 if they do not cover the penalties."""
    for k, penalty in enumerate(penalties):
        if sum([prices[b] for b in with_above(budgets, k)]) < penalty:
            return -1
    return sum([budget[1] * price for budget, price in zip(budgets, prices)])
