"""A plain desk, straight from k1 to k9: it runs unit by unit, and undoes by doing all else anew. And drawn deeds."""
from faultdue.admission import is_sure, paper_of
from faultdue.errors import BadEntry, BadState, BadSystem
from faultdue.systems import check_system
from tests.helpers import drawn_segments, line_up, refusal, slices_of


def outcome(function, *arguments):
    """What a call gives back, or the error that it raises, with its fields."""
    try:
        return function(*arguments)
    except BadState:
        return "BadState"
    except BadSystem as error:
        return ("BadSystem", error.line, error.reason)
    except BadEntry as error:
        return ("BadEntry", error.place)


def seen(desk):
    """All that can be seen of a desk."""
    return desk.now(), desk.pending(), desk.remaining(), desk.finished(), desk.log()


def require(holds):
    if not holds:
        raise BadState()


class PlainJob:
    def __init__(self, name, release, due, segments):
        self.name, self.release, self.due, self.segments = name, release, due, segments
        self.segment = self.attempt = self.done = 0

    def remaining(self, now):
        return ("job", self.name, max(self.release, now), self.due, self.done, self.segments[self.segment:])


class PlainTask:
    def __init__(self, name, first, gap, due, segments):
        self.name, self.first, self.gap, self.due, self.segments = name, first, gap, due, segments
        self.bodies = 0

    def remaining(self, now):
        return ("task", self.name, max(self.first, now), self.gap, self.due, self.segments)


class PlainDesk:
    def __init__(self, budgets):
        self.beginning = budgets
        self.clear()

    def clear(self):
        self.time, self.waiting, self.entries, self.ended = 0, None, [], []
        self.capacities = [capacity for _, capacity, _ in self.beginning]
        self.jobs, self.tasks = [], []

    def now(self):
        return self.time

    def pending(self):
        return self.waiting.name if self.waiting else ""

    def finished(self):
        return tuple(self.ended)

    def log(self):
        return tuple(self.entries)

    def remaining(self, jobs=(), tasks=(), grants=None):
        """The remaining system; with further jobs and tasks and other capacities, if they are told."""
        capacities = self.capacities if grants is None else grants
        budgets = tuple((name, capacities[k], parent) for k, (name, _, parent) in enumerate(self.beginning))
        coming = tuple(task.remaining(self.time) for task in self.tasks if task.remaining(self.time)[2] <= 1000)
        return ("system", budgets, tuple(job.remaining(self.time) for job in self.jobs) + jobs, coming + tasks)

    def require_free(self):
        require(self.waiting is None and len(self.entries) < 500)

    def refused(self, system):
        told = refusal(check_system, system)
        if told is not None:
            return ("refused", told[1])
        return None if is_sure(system) else ("refused", paper_of(system))

    def admit(self, thing):
        self.require_free()
        if not self.is_thing(thing):
            raise BadSystem(0, "not a system")
        if thing[0] == "job":
            told = self.refused(self.remaining(jobs=(thing[:4] + (0,) + thing[4:],)))
        else:
            told = self.refused(self.remaining(tasks=(thing,)))
        if told:
            return told
        self.entries.append(("admit", thing))
        if thing[0] == "job":
            self.jobs.append(PlainJob(*thing[1:]))
        else:
            self.tasks.append(PlainTask(*thing[1:]))
        return ("admitted",)

    def is_thing(self, thing):
        if not isinstance(thing, tuple) or len(thing) < 5:
            return False
        kind = "job" if thing[0] == "job" and len(thing) == 5 else "task"
        jobs = (thing[:4] + (0,) + thing[4:],) if kind == "job" else ()
        tasks = () if kind == "job" else (thing,)
        if refusal(check_system, ("system", self.beginning, jobs, tasks)) == (0, "not a system"):
            return False
        name = thing[1]
        taken = [row.name for row in self.jobs + self.tasks]
        if thing[2] < self.time or name in taken or "." in name or any(job.name.split(".")[0] == name for job in self.jobs):
            return False
        return len(self.jobs) < 40 if kind == "job" else len(self.tasks) < 5

    def arrive(self, name):
        self.require_free()
        tasks = [task for task in self.tasks if task.name == name]
        require(tasks and self.time >= tasks[0].first and self.time + tasks[0].due <= 1000 and len(self.jobs) < 40)
        task = tasks[0]
        self.entries.append(("arrive", name))
        self.jobs.append(PlainJob(name + "." + str(task.bodies), self.time, self.time + task.due, task.segments))
        task.bodies += 1
        task.first = self.time + task.gap
        return self.jobs[-1].name

    def cancel(self, name):
        self.require_free()
        require(name in [row.name for row in self.jobs + self.tasks])
        self.entries.append(("cancel", name))
        self.jobs = [job for job in self.jobs if job.name != name]
        self.tasks = [task for task in self.tasks if task.name != name]

    def grant(self, budget, more):
        self.require_free()
        require(not isinstance(budget, bool) and not isinstance(more, bool))
        require(isinstance(budget, int) and isinstance(more, int) and budget in range(len(self.beginning)) and more >= 1)
        require(self.capacities[budget] + more <= 20)
        raised = [capacity + more * (k == budget) for k, capacity in enumerate(self.capacities)]
        told = self.refused(self.remaining(grants=raised))
        if told:
            return told
        self.entries.append(("grant", budget, more))
        self.capacities = raised
        return ("granted",)

    def run(self, until):
        self.require_free()
        require(isinstance(until, int) and not isinstance(until, bool) and self.time <= until <= 1000)
        self.entries.append(("run", until))
        units = []
        while self.time < until and self.waiting is None:
            ready = [(job.due, k) for k, job in enumerate(self.jobs) if job.release <= self.time]
            if ready:
                job = self.jobs[min(ready)[1]]
                units.append((self.time, job.name, job.segment, job.attempt))
                job.done += 1
                if job.done == job.segments[job.segment][0]:
                    self.waiting = job
            self.time += 1
        return slices_of(units)

    def report(self, faulty):
        require(self.waiting is not None and len(self.entries) < 500)
        job = self.waiting
        if faulty:
            line = line_up(self.beginning, job.segments[job.segment][1])
            require(all(self.capacities[k] > 0 for k in line))
            self.capacities = [capacity - (k in line) for k, capacity in enumerate(self.capacities)]
            job.attempt += 1
        else:
            job.segment, job.attempt = job.segment + 1, 0
        self.entries.append(("report", faulty))
        job.done, self.waiting = 0, None
        if job.segment == len(job.segments):
            self.jobs.remove(job)
            self.ended.append((job.name, self.time, job.due))

    def undo(self):
        require(self.entries)
        entries = self.entries[:-1]
        self.clear()
        for word, *values in entries:
            getattr(self, word)(*values)


def drawn_thing(draw, name, now, many, most=4):
    """A job or task to be admitted; some of them are in each other's way, some are none."""
    release = now + draw.choice((0, 0, 1, draw.randint(0, 15), draw.randint(-2, 0)))
    segments = drawn_segments(draw, many, most)
    work = sum(length for length, _ in segments)
    if draw.random() < 0.6:
        return ("job", name, release, min(1000, release + draw.randint(0, 20) + 2 * work), segments)
    gap, due = draw.randint(work, 10 * work + 10), draw.randint(work, 40)
    return ("task", name, release, min(gap, 1000), due, segments)


def drawn_deed(draw, desk, names="abcdefghijklmnop"):
    """(word, values) of a deed that makes sense at the desk, or nearly."""
    now = desk.now()
    _, budgets, jobs, tasks = desk.remaining()
    if desk.pending() and draw.random() < 0.9:
        return ("report", draw.choice((True, False)))
    word = draw.choice(("admit",) * 4 + ("run",) * 6 + ("arrive",) * 3 + ("cancel", "grant", "report", "undo"))
    if word == "admit":
        return (word, drawn_thing(draw, draw.choice(names), now, len(budgets)))
    if word == "run":
        return (word, min(1000, now + draw.choice((0, 1, 3, 10, 25, 60, -1))))
    if word == "arrive":
        return (word, draw.choice([task[1] for task in tasks] * 2 + list(names[:1])))
    if word == "cancel":
        return (word, draw.choice([item[1] for item in jobs + tasks] * 2 + list(names[:2])))
    if word == "grant":
        return (word, draw.randint(-1, len(budgets)), draw.choice((1, 1, 2, 0, 30)))
    return (word, draw.choice((True, False))) if word == "report" else (word,)
