"""What several tests need: refusals, values that are no integers, small budgets, and plain walks over them."""
import random
from itertools import product

from faultdue.errors import BadSystem

# What stands where an integer belongs, and is none.
NO_INTEGERS = (True, False, None, "1", "", (), (1,), [1])


def refusal(check, value):
    """Line and reason with which a check refuses the value; None if it lets it."""
    try:
        told = check(value)
    except BadSystem as error:
        return error.line, error.reason
    if told is not None:
        raise AssertionError(f"a check gave back {told!r}")
    return None


def put(row, at, value):
    """The tuple with another value at an index."""
    return row[:at] + (value,) + row[at + 1:]


def line_up(budgets, k):
    """The index k and all above it, straight from b1."""
    return [k] if budgets[k][2] == -1 else [k] + line_up(budgets, budgets[k][2])


def fits(budgets, faults):
    """Is the assignment within the budgets, straight from b2?"""
    return all(
        sum(faults[k] for k in range(len(budgets)) if b in line_up(budgets, k)) <= budgets[b][1]
        for b in range(len(budgets))
    )


def assignments(budgets):
    """All assignments within the budgets, by a plain walk."""
    ranges = [range(budget[1] + 1) for budget in budgets]
    return [faults for faults in product(*ranges) if fits(budgets, faults)]


def budgets_of(capacities, parents):
    """Budgets with these capacities and parents, named a, b, .."""
    return tuple(("abcdef"[k], capacities[k], parents[k]) for k in range(len(parents)))


def small_budgets():
    """All budgets of one to three triples with capacities from 0 to 2."""
    found = []
    for many in (1, 2, 3):
        for parents in product(*[range(-1, k) for k in range(many)]):
            for capacities in product(range(3), repeat=many):
                found.append(budgets_of(capacities, parents))
    return found


def some_budgets(count):
    """Some budgets of four to six triples, the same at each call."""
    draw = random.Random(20261119)
    found = []
    for _ in range(count):
        many = draw.randint(4, 6)
        parents = [draw.randint(-1, k - 1) for k in range(many)]
        capacities = [draw.randint(0, 3) for _ in range(many)]
        found.append(budgets_of(capacities, parents))
    return found
