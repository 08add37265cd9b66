"""Dividing work by checkpoints."""

MOST_PARTS = 6


def even(work, count):
    """The even division of some work into so many parts (z2)."""
    size, more = work // count, work % count
    return (size + 1,) * more + (size,) * (count - more)


def cost(parts, overhead, faults):
    """What a division costs if so many faults can occur (z1)."""
    return sum(parts) + overhead * len(parts) + faults * (max(parts) + overhead)


def best(work, overhead, faults):
    """The count, the cost and the lengths of the best division (z3)."""
    count, least = best_even(work, overhead, faults)
    return count, least, tuple([part + overhead for part in even(work, count)])


def best_costs(work, overhead, most):
    """Count and cost of the best divisions for 0 to most faults."""
    return tuple([best_even(work, overhead, faults) for faults in range(most + 1)])


def best_even(work, overhead, faults):
    """Count and cost of the even division that costs least, of several the one with the fewest parts."""
    counts = range(1, min(MOST_PARTS, work) + 1)
    costs = [(cost(even(work, count), overhead, faults), count) for count in counts]
    least, count = min(costs)
    return count, least
