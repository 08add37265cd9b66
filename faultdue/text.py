"""Texts of systems: how they are written and read."""
from faultdue.budgets import MOST_BUDGETS, is_budget
from faultdue.errors import BadSystem
from faultdue.kinds import is_item_name, is_name, is_number
from faultdue.systems import MOST_JOBS, MOST_TASKS, check_system, is_job, is_task

MOST_CHARACTERS = 10000
PERCENT_SIGN = 37
# How lines of jobs and tasks can stand: the first word, the fixed words with their places, the places of the numbers.
# The segments begin behind the last fixed word.
ITEM_LINES = (
    ("job", ((3, "to"), (5, "do")), (2, 4)),
    ("job", ((3, "to"), (5, "done"), (7, "do")), (2, 4, 6)),
    ("task", ((2, "from"), (4, "gap"), (6, "due"), (8, "do")), (3, 5, 7)),
)


def shown(system):
    """The text of a system (s6)."""
    _, budgets, jobs, tasks = system
    lines = [shown_budget(budgets, budget) for budget in budgets]
    lines.extend([shown_job(budgets, job) for job in jobs])
    lines.extend([shown_task(budgets, task) for task in tasks])
    return "".join([f"{line}\n" for line in lines])


def shown_budget(budgets, budget):
    """The line of a budget, without its newline."""
    name, capacity, parent = budget
    line = f"budget {name} {capacity}"
    return line if parent < 0 else f"{line} in {budgets[parent][0]}"


def shown_job(budgets, job):
    """The line of a job, without its newline."""
    _, name, release, due, done, segments = job
    line = f"job {name} {release} to {due}"
    if done:
        line = f"{line} done {done}"
    return f"{line} do {shown_segments(budgets, segments)}"


def shown_task(budgets, task):
    """The line of a task, without its newline."""
    _, name, first, gap, due, segments = task
    return f"task {name} from {first} gap {gap} due {due} do {shown_segments(budgets, segments)}"


def shown_segments(budgets, segments):
    """Lengths and the names of the sources, in their order."""
    return " ".join([f"{length} {budgets[source][0]}" for length, source in segments])


def parse(text):
    """The system of a text; raise BadSystem where there is none (s7)."""
    rows, last = rows_of(text, MOST_CHARACTERS)
    budgets, jobs, tasks = [], [], []
    for line, words in rows:
        if words[0] == "budget":
            budgets.append(read_budget(line, words, budgets))
        else:
            item = read_item(line, words, budgets, [taken[1] for taken in jobs + tasks])
            alike, most = (jobs, MOST_JOBS) if item[0] == "job" else (tasks, MOST_TASKS)
            if len(alike) == most:
                raise BadSystem(line, "too many")
            alike.append(item)
    if not budgets:
        raise BadSystem(last, "no budgets")
    system = ("system", tuple(budgets), tuple(jobs), tuple(tasks))
    check_system(system)
    return system


def rows_of(text, most):
    """(line, words) of all lines of a text that have words, and the number of the last line."""
    check_characters(text, most)
    lines = text.split("\n")
    rows = [(line, words_of(row)) for line, row in enumerate(lines, start=1)]
    return [row for row in rows if row[1]], len(lines)


def check_characters(text, most):
    """Raise BadSystem if a text has more characters than most, or one that no text may have."""
    if len(text) > most or not all(may_stand(letter) for letter in text):
        raise BadSystem(1, "text not allowed")


def may_stand(letter):
    """May the character stand in a text?"""
    return letter == "\n" or (" " <= letter <= "~" and ord(letter) != PERCENT_SIGN)


def words_of(row):
    """The words of a line ahead of its comment."""
    words = []
    for word in row.split():
        if word.startswith("#"):
            break
        words.append(word)
    return words


def read_budget(line, words, budgets):
    """The budget that the words of a line tell, behind the budgets of the lines ahead."""
    if len(words) != 3 and not (len(words) == 5 and words[3] == "in"):
        raise BadSystem(line, "unknown line")
    name, parents = words[1], words[4:]
    known = [budget[0] for budget in budgets]
    check_name(line, is_name(name), name in known)
    check_words(line, [words[2]], parents, known)
    budget = (name, int(words[2]), known.index(parents[0]) if parents else -1)
    if not is_budget(budget, len(budgets)):
        raise BadSystem(line, "out of range")
    if len(budgets) == MOST_BUDGETS:
        raise BadSystem(line, "too many")
    return budget


def read_item(line, words, budgets, taken):
    """The job or task that the words of a line tell; its name must not be one of those that are taken."""
    places, pairs = split_item(words)
    if not pairs:
        raise BadSystem(line, "unknown line")
    name, lengths, sources = words[1], pairs[::2], pairs[1::2]
    known = [budget[0] for budget in budgets]
    numbers = [words[at] for at in places]
    check_name(line, is_item_name(name), name in taken)
    check_words(line, numbers + lengths, sources, known)
    numbers = [int(number) for number in numbers]
    # A job without a word for it has nothing done.
    numbers = numbers if len(numbers) == 3 else numbers + [0]
    segments = tuple([(int(length), known.index(source)) for length, source in zip(lengths, sources)])
    item = (words[0], name, *numbers, segments)
    # Kinds, names and sources are right by now: what is wrong still is a number or the number of segments.
    if not is_job(item, len(budgets)) and not is_task(item, len(budgets)):
        raise BadSystem(line, "out of range")
    return item


def split_item(words):
    """The places of the numbers in a line of a job or task, and the words of its segments; no words if it is none."""
    for kind, fixed, places in ITEM_LINES:
        pairs = words[fixed[-1][0] + 1:]
        if words[0] == kind and len(pairs) % 2 == 0 and stand_in(words, fixed):
            return places, pairs
    return (), []


def stand_in(words, fixed):
    """Do the fixed words stand at their places?"""
    return all([words[at:at + 1] == [word] for at, word in fixed])


def check_name(line, is_right, is_taken):
    """Refuse a line whose name is none, or is there already."""
    if not is_right:
        raise BadSystem(line, "not a name")
    if is_taken:
        raise BadSystem(line, "name twice")


def check_words(line, numbers, names, known):
    """Refuse a line with a number that is none, or with the name of a budget that is not known."""
    if not all([is_number(number) for number in numbers]):
        raise BadSystem(line, "not a number")
    if not all([name in known for name in names]):
        raise BadSystem(line, "unknown budget")
