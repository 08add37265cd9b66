"""Picks of the jobs of a system that are kept, so that it is sure."""
from faultdue.admission import is_sure, paper_of


def picked(system, pick):
    """The system of a pick: its jobs alone, and all tasks (w1)."""
    word, budgets, jobs, tasks = system
    return (word, budgets, tuple([jobs[k] for k in pick]), tasks)


def best_pick(system, worths):
    """The best pick, its worth and the paper of its system; if there is none, the paper without jobs (w2)."""
    picks = sure_picks(system)
    if not picks:
        return ("none", paper_of(picked(system, ())))
    sums = [sum([worths[k] for k in pick]) for pick in picks]
    worth = max(sums)
    # Of several the first one: the picks stand in the order of w2.
    pick = picks[sums.index(worth)]
    return ("pick", pick, worth, paper_of(picked(system, pick)))


def full_picks(system):
    """All sure picks into which no job can be put so that they stay sure, in the order of w2 (w3)."""
    picks = sure_picks(system)
    sure = {pick: True for pick in picks}
    return tuple([pick for pick in picks if not can_grow(pick, len(system[2]), sure)])


def can_grow(pick, many, sure):
    """Can one of so many jobs be put into the pick so that it is one of the sure ones?"""
    others = [k for k in range(many) if k not in pick]
    return any([tuple(sorted(pick + (k,))) in sure for k in others])


def sure_picks(system):
    """All sure picks, in the order of w2."""
    picks = [()] if is_sure(picked(system, ())) else []
    # What is left of a sure pick is sure (w1): only what has been sure up to a job can be sure with it.
    for k in range(len(system[2])):
        grown = []
        for pick in picks:
            more = pick + (k,)
            if is_sure(picked(system, more)):
                grown.append(more)
            grown.append(pick)
        picks = grown
    return picks
