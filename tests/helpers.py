"""What several tests need: refusals, values that are no integers, small budgets and systems, and plain walks."""
import random
from functools import lru_cache
from itertools import product

from faultdue.errors import BadSystem
from faultdue.systems import check_system, horizon_of

# What stands where an integer belongs, and is none.
NO_INTEGERS = (True, False, None, "1", "", (), (1,), [1])


def refusal(check, value):
    """Line and reason with which a check refuses the value; None if it lets it."""
    try:
        told = check(value)
    except BadSystem as error:
        return error.line, error.reason
    if told is not None:
        raise AssertionError(f"a check gave back {told!r}")
    return None


def put(row, at, value):
    """The tuple with another value at an index."""
    return row[:at] + (value,) + row[at + 1:]


def line_up(budgets, k):
    """The index k and all above it, straight from b1."""
    return [k] if budgets[k][2] == -1 else [k] + line_up(budgets, budgets[k][2])


def fits(budgets, faults):
    """Is the assignment within the budgets, straight from b2?"""
    return all(
        sum(faults[k] for k in range(len(budgets)) if b in line_up(budgets, k)) <= budgets[b][1]
        for b in range(len(budgets))
    )


def assignments(budgets):
    """All assignments within the budgets, by a plain walk."""
    ranges = [range(budget[1] + 1) for budget in budgets]
    return [faults for faults in product(*ranges) if fits(budgets, faults)]


def budgets_of(capacities, parents):
    """Budgets with these capacities and parents, named a, b, .."""
    return tuple(("abcdef"[k], capacities[k], parents[k]) for k in range(len(parents)))


def small_budgets():
    """All budgets of one to three triples with capacities from 0 to 2."""
    found = []
    for many in (1, 2, 3):
        for parents in product(*[range(-1, k) for k in range(many)]):
            for capacities in product(range(3), repeat=many):
                found.append(budgets_of(capacities, parents))
    return found


def some_budgets(count):
    """Some budgets of four to six triples, the same at each call."""
    draw = random.Random(20261119)
    found = []
    for _ in range(count):
        many = draw.randint(4, 6)
        parents = [draw.randint(-1, k - 1) for k in range(many)]
        capacities = [draw.randint(0, 3) for _ in range(many)]
        found.append(budgets_of(capacities, parents))
    return found


def drawn_budgets(draw, most=4):
    """Some budgets with capacities from 0 to 2."""
    many = draw.randint(1, most)
    return budgets_of([draw.randint(0, 2) for _ in range(many)], [draw.randint(-1, k - 1) for k in range(many)])


def drawn_segments(draw, many, most=4):
    return tuple((draw.randint(1, most), draw.randrange(many)) for _ in range(draw.choice((1, 1, 2, 3))))


def drawn_job(draw, name, many, latest=12, room=40):
    """A job, sometimes partly or wholly executed in its first segment."""
    release = draw.randint(0, latest)
    segments = drawn_segments(draw, many)
    done = draw.choice((0, 0, draw.randint(0, segments[0][0])))
    return ("job", name, release, release + draw.randint(0, room), done, segments)


def drawn_task(draw, name, many, latest=12):
    return ("task", name, draw.randint(0, latest), draw.randint(4, 30), draw.randint(0, 30), drawn_segments(draw, many))


def drawn_system(draw):
    """A small system that check_system lets."""
    while True:
        budgets = drawn_budgets(draw)
        many = len(budgets)
        jobs = tuple(drawn_job(draw, "j" + "abcd"[k], many) for k in range(draw.randint(0, 4)))
        tasks = tuple(drawn_task(draw, "t" + "abcd"[k], many) for k in range(draw.randint(0, 2)))
        system = ("system", budgets, jobs, tasks)
        # Slow to walk through are the ones whose rate is near 1.
        if refusal(check_system, system) is None and horizon_of(system) <= 150:
            return system


def drawn_systems(count, seed=1):
    """Small systems that check_system lets, the same at each call; sure ones and others."""
    draw = random.Random(seed)
    return [drawn_system(draw) for _ in range(count)]


def plain_inside(system, s, e):
    """(work, segments) of all jobs and bodies in the interval, one by one, straight from d1."""
    found = []
    for _, _, release, due, done, segments in system[2]:
        if release >= s and due <= e:
            found.append((sum(length for length, _ in segments) - done, segments))
    for _, _, first, gap, due, segments in system[3]:
        time = max(s, first)
        while time + due <= e:
            found.append((sum(length for length, _ in segments), segments))
            time += gap
    return found


def plain_demand(system, s, e):
    return sum(work for work, _ in plain_inside(system, s, e))


def plain_penalties(system, s, e):
    found = [0] * len(system[1])
    for _, segments in plain_inside(system, s, e):
        for length, source in segments:
            found[source] = max(found[source], length)
    return tuple(found)


def plain_recovery(budgets, penalties):
    """The worst recovery among all assignments within the budgets."""
    return max(sum(p * f for p, f in zip(penalties, faults)) for faults in assignments_of(budgets))


@lru_cache(maxsize=None)
def assignments_of(budgets):
    return assignments(budgets)


def plain_slack(system, s, e):
    return e - s - plain_demand(system, s, e) - plain_recovery(system[1], plain_penalties(system, s, e))


def plain_ends(system, s, most):
    """The ends of s up to most, each time asked whether it is one."""
    found = []
    for e in range(most + 1):
        of_jobs = any(release >= s and due == e for _, _, release, due, _, _ in system[2])
        of_tasks = any(
            e >= max(s, first) + due and (e - max(s, first) - due) % gap == 0 for _, _, first, gap, due, _ in system[3]
        )
        if of_jobs or of_tasks:
            found.append(e)
    return found


def plain_walk(system):
    """(s, e, slack) of all intervals of d2."""
    latest = max([item[2] for item in system[2] + system[3]], default=0)
    return [
        (s, e, plain_slack(system, s, e))
        for s in range(latest + 1)
        for e in plain_ends(system, s, s + horizon_of(system))
    ]


def drawn_arrivals(draw, system, most=6):
    """Arrivals in which some bodies come just a gap apart, and others later."""
    found = []
    for _, _, first, gap, _, _ in system[3]:
        releases = []
        time = first
        for _ in range(draw.randint(0, most)):
            time += draw.choice((0, 0, 1, draw.randint(0, 20)))
            releases.append(time)
            time += gap
        found.append(tuple(releases))
    return tuple(found)


def plain_items(system, arrivals):
    """(release, due, done, segments) of each item, straight from e1."""
    items = [(release, due, done, segments) for _, _, release, due, done, segments in system[2]]
    for k, (_, _, _, _, due, segments) in enumerate(system[3]):
        for release in arrivals[k]:
            items.append((release, release + due, 0, segments))
    return items


def drawn_plan(draw, system, arrivals, within):
    """A plan of faults, drawn one by one as long as they are within the budgets (or just some of them)."""
    items = plain_items(system, arrivals)
    places = [(k, at) for k, item in enumerate(items) for at in range(len(item[3]))]
    counts = {}
    faults = (0,) * len(system[1])
    for _ in range(draw.randint(0, 8) if places else 0):
        place = draw.choice(places)
        source = items[place[0]][3][place[1]][1]
        more = put(faults, source, faults[source] + 1)
        if fits(system[1], more) or not within:
            faults = more
            counts[place] = counts.get(place, 0) + 1
    return tuple((k, at, counts[k, at]) for k, at in sorted(counts))


class PlainItem:
    """An item as the unit by unit walk executes it."""

    def __init__(self, item, counts):
        self.release, self.due, self.done, self.segments = item
        self.counts = counts
        self.segment = self.attempt = 0
        self.end = None
        self.settle(self.release)

    def settle(self, now):
        """An attempt that is executed whole is found at once to be faulty or not (e3)."""
        while self.end is None and self.done == self.segments[self.segment][0]:
            self.done = 0
            if self.attempt < self.counts.get(self.segment, 0):
                self.attempt += 1
            else:
                self.segment, self.attempt = self.segment + 1, 0
                self.end = now if self.segment == len(self.segments) else None


def plain_run(system, arrivals, plan):
    """The run, unit by unit."""
    items = [
        PlainItem(item, {segment: count for at, segment, count in plan if at == k})
        for k, item in enumerate(plain_items(system, arrivals))
    ]
    units = []
    now = 0
    while any(item.end is None for item in items):
        ready = [(item.due, k) for k, item in enumerate(items) if item.release <= now and item.end is None]
        if ready:
            k = min(ready)[1]
            units.append((now, k, items[k].segment, items[k].attempt))
            items[k].done += 1
            items[k].settle(now + 1)
        now += 1
    ends = tuple(item.end for item in items)
    return slices_of(units), ends, tuple(k for k, item in enumerate(items) if item.end > item.due)


def slices_of(units):
    """The longest stretches of the units."""
    slices = []
    for time, *what in units:
        if slices and slices[-1][1] == time and slices[-1][2:] == what:
            slices[-1][1] += 1
        else:
            slices.append([time, time + 1] + what)
    return tuple(tuple(row) for row in slices)


def names(many):
    """So many names of two letters."""
    return ["abcdefghij"[k // 10] + "abcdefghij"[k % 10] for k in range(many)]


def subsets(many):
    """All ascending tuples of indices below many, to keep an index ahead of leaving it out, from 0 on (w2)."""
    if many == 0:
        return [()]
    # Those of one index fewer, moved up by one, with 0 and then without it.
    others = [tuple(k + 1 for k in pick) for pick in subsets(many - 1)]
    return [(0,) + pick for pick in others] + others
