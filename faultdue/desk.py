"""The desk: it admits what can be guaranteed, runs it while faults are found, and keeps a log of its deeds."""
from faultdue.active import behind_fault, behind_report, body_of, index_of, remaining_system, run_jobs, with_item
from faultdue.admission import is_sure, paper_of
from faultdue.budgets import MOST_CAPACITY, check_budgets
from faultdue.entries import MOST_ENTRIES, is_thing, item_of
from faultdue.errors import BadState, BadSystem
from faultdue.kinds import is_between
from faultdue.margins import put
from faultdue.systems import MOST_JOBS, MOST_TASKS, MOST_TIME, check_system


def refusal_of(system):
    """("refused", why) of a system that cannot be guaranteed, () if it is fit (k3)."""
    try:
        check_system(system)
    except BadSystem as refused:
        return ("refused", refused.reason)
    return () if is_sure(system) else ("refused", paper_of(system))


class Desk:
    """A processor with budgets of faults that are left, active jobs and tasks, and the time."""

    def __init__(self, budgets):
        check_budgets(budgets)
        self._now = 0
        self._budgets = budgets
        self._jobs = ()
        self._tasks = ()
        self._pending = ""
        self._finished = ()
        self._log = []
        # What the desk was ahead of each entry of the log, in tuples: nothing changes them any more.
        self._past = []

    def admit(self, thing):
        """Admit a job or task if it can be guaranteed beside all that is active (k3)."""
        self._check_free()
        if not is_thing(thing, len(self._budgets)) or not self._is_new(thing):
            raise BadSystem(0, "not a system")
        item = item_of(thing)
        refused = refusal_of(with_item(self.remaining(), item))
        if refused:
            return refused
        self._note(("admit", thing))
        if item[0] == "job":
            self._jobs = self._jobs + ((item, 0, 0),)
        else:
            self._tasks = self._tasks + ((item, 0),)
        return ("admitted",)

    def arrive(self, name):
        """Let a body of an active task come now; gives its name (k4)."""
        self._check_free()
        at = index_of(self._tasks, name)
        if at < 0 or len(self._jobs) == MOST_JOBS:
            raise BadState()
        _, _, first, _, due, _ = self._tasks[at][0]
        if self._now < first or self._now + due > MOST_TIME:
            raise BadState()
        self._note(("arrive", name))
        body, task = body_of(self._tasks[at], self._now)
        self._jobs = self._jobs + (body,)
        self._tasks = put(self._tasks, at, task)
        return body[0][1]

    def cancel(self, name):
        """Take an active job or task away (k5)."""
        self._check_free()
        if index_of(self._jobs + self._tasks, name) < 0:
            raise BadState()
        self._note(("cancel", name))
        self._jobs = tuple([row for row in self._jobs if row[0][1] != name])
        self._tasks = tuple([row for row in self._tasks if row[0][1] != name])

    def grant(self, budget, more):
        """Raise the capacity of a budget if all can be guaranteed still (k5)."""
        self._check_free()
        if not is_between(budget, 0, len(self._budgets) - 1):
            raise BadState()
        name, capacity, parent = self._budgets[budget]
        if not is_between(more, 1, MOST_CAPACITY - capacity):
            raise BadState()
        budgets = put(self._budgets, budget, (name, capacity + more, parent))
        refused = refusal_of(remaining_system(self._now, budgets, self._jobs, self._tasks))
        if refused:
            return refused
        self._note(("grant", budget, more))
        self._budgets = budgets
        return ("granted",)

    def run(self, until):
        """Run up to a time, or to the end of an attempt, if this is not later; gives the slices (k6)."""
        self._check_free()
        if not is_between(until, self._now, MOST_TIME):
            raise BadState()
        self._note(("run", until))
        self._jobs, self._now, self._pending, slices = run_jobs(self._jobs, self._now, until)
        return slices

    def report(self, faulty):
        """Tell whether the attempt that has ended was faulty (k6)."""
        if self._pending == "" or len(self._log) == MOST_ENTRIES:
            raise BadState()
        at = index_of(self._jobs, self._pending)
        row = self._jobs[at]
        _, name, _, due, _, segments = row[0]
        budgets = behind_fault(self._budgets, segments[0][1]) if faulty else self._budgets
        if budgets == ():
            raise BadState()
        self._note(("report", faulty))
        self._budgets = budgets
        self._pending = ""
        behind = behind_report(row, faulty)
        if behind:
            self._jobs = put(self._jobs, at, behind)
        else:
            self._jobs = self._jobs[:at] + self._jobs[at + 1:]
            self._finished = self._finished + ((name, self._now, due),)

    def undo(self):
        """Take the last entry of the log back (k8)."""
        if not self._log:
            raise BadState()
        self._log.pop()
        self._now, self._budgets, self._jobs, self._tasks, self._pending, self._finished = self._past.pop()

    def now(self):
        """The time."""
        return self._now

    def pending(self):
        """The name of the job for which a report is pending, "" if none is."""
        return self._pending

    def remaining(self):
        """The remaining system (k2)."""
        return remaining_system(self._now, self._budgets, self._jobs, self._tasks)

    def finished(self):
        """(name, end, due) of the finished jobs, in the order in which they finished."""
        return self._finished

    def log(self):
        """The entries of all deeds that were done, in order (k8)."""
        return tuple(self._log)

    def _check_free(self):
        """Raise BadState if no deed but a report or undoing can be done."""
        if self._pending != "" or len(self._log) == MOST_ENTRIES:
            raise BadState()

    def _is_new(self, thing):
        """Can the thing come in beside what is active, by its time, its name and their number (k3)?"""
        _, name, release = thing[:3]
        rows, most = (self._jobs, MOST_JOBS) if thing[0] == "job" else (self._tasks, MOST_TASKS)
        if release < self._now or "." in name or len(rows) == most:
            return False
        names = [row[0][1] for row in self._jobs + self._tasks]
        # The bodies of a task of this name could have the name of a job that is active still.
        return name not in names and not any([taken.startswith(f"{name}.") for taken in names])

    def _note(self, entry):
        """Put a deed that is about to be done into the log, and keep what the desk is ahead of it."""
        self._log.append(entry)
        self._past.append((self._now, self._budgets, self._jobs, self._tasks, self._pending, self._finished))
