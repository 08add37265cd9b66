"""The judge: whether a paper holds for a system."""
from faultdue.budgets import is_within, with_above
from faultdue.demand import demand, intervals_of, penalties
from faultdue.kinds import is_between, is_count, is_row
from faultdue.recovery import recovery_of

MOST_END = 1000000000


def judge(system, paper):
    """Does the paper hold for the system (p1)? It may be anything."""
    if is_row(paper, 2, 2) and paper[0] == "sure":
        return are_rows(paper[1], len(system[1])) and is_proven_sure(system, paper[1])
    if is_row(paper, 4, 4) and paper[0] == "unsure":
        return is_proven_unsure(system, paper[1], paper[2], paper[3])
    return False


def are_rows(rows, many):
    """Is this a tuple of prices, or of none, for so many budgets?"""
    return isinstance(rows, tuple) and all([are_counts(row, many) for row in rows])


def are_counts(row, many):
    """Is this a tuple of so many integers from 0 on?"""
    return is_row(row, many, many) and all([is_count(number) for number in row])


def is_proven_sure(system, rows):
    """Is there for each interval of d2 a row that covers its penalties and leaves it room enough?"""
    offers = offers_of(system[1], rows)
    bounds = {}
    for s, e, asked, longest in intervals_of(system):
        if longest not in bounds:
            bounds[longest] = least_bound(offers, longest)
        if bounds[longest] < 0 or asked + bounds[longest] > e - s:
            return False
    return True


def offers_of(budgets, rows):
    """The bound of each row, and for each source its price and those above together; the least bound comes first."""
    offers = []
    for row in rows:
        bound = sum([budget[1] * price for budget, price in zip(budgets, row)])
        offers.append((bound, [sum([row[b] for b in with_above(budgets, k)]) for k in range(len(budgets))]))
    return sorted(offers)


def least_bound(offers, longest):
    """The bound of the first row that covers the penalties, -1 if none does."""
    for bound, together in offers:
        if all([price >= penalty for price, penalty in zip(together, longest)]):
            return bound
    return -1


def is_proven_unsure(system, s, e, faults):
    """Are these faults within the budgets, and too many for the interval (s, e)?"""
    if not is_count(s) or not is_between(e, s, MOST_END):
        return False
    if not are_counts(faults, len(system[1])) or not is_within(system[1], faults):
        return False
    return demand(system, s, e) + recovery_of(penalties(system, s, e), faults) > e - s
