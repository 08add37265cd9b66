"""Texts of sessions: the budgets and the log of a desk, how they are written and read."""
from faultdue.entries import MOST_ENTRIES, item_of, thing_of
from faultdue.errors import BadSystem
from faultdue.kinds import is_item_name
from faultdue.text import check_name, check_words, read_budget, read_item, rows_of, shown_budget, shown_job, shown_task

MOST_CHARACTERS = 100000


def shown_session(budgets, log):
    """The text of a session (h1)."""
    lines = [shown_budget(budgets, budget) for budget in budgets]
    lines.extend([shown_entry(budgets, entry) for entry in log])
    return "".join([f"{line}\n" for line in lines])


def shown_entry(budgets, entry):
    """The line of an entry, without its newline."""
    word, value = entry[:2]
    if word == "admit":
        item = item_of(value)
        line = shown_job(budgets, item) if item[0] == "job" else shown_task(budgets, item)
        return f"admit {line}"
    if word == "grant":
        return f"grant {budgets[value][0]} {entry[2]}"
    if word == "report":
        return "report faulty" if value else "report good"
    return f"{word} {value}"


def parse_session(text):
    """The budgets and the log of a text; raise BadSystem where there are none (h1)."""
    rows, last = rows_of(text, MOST_CHARACTERS)
    budgets, log = [], []
    for line, words in rows:
        if words[0] != "budget":
            entry = read_entry(line, words, budgets)
            if len(log) == MOST_ENTRIES:
                raise BadSystem(line, "too many")
            log.append(entry)
        elif log:
            raise BadSystem(line, "budget behind an entry")
        else:
            budgets.append(read_budget(line, words, budgets))
    if not budgets:
        raise BadSystem(last, "no budgets")
    return tuple(budgets), tuple(log)


def read_entry(line, words, budgets):
    """The entry that the words of a line tell."""
    word, told = words[0], words[1:]
    if word == "admit" and told:
        return ("admit", read_thing(line, told, budgets))
    if word in ("arrive", "cancel") and len(told) == 1:
        check_name(line, is_item_name(told[0]), False)
        return (word, told[0])
    if word == "grant" and len(told) == 2:
        known = [budget[0] for budget in budgets]
        check_words(line, told[1:], told[:1], known)
        return ("grant", known.index(told[0]), int(told[1]))
    if word == "run" and len(told) == 1:
        check_words(line, told, [], [])
        return ("run", int(told[0]))
    if word == "report" and told in (["faulty"], ["good"]):
        return ("report", told == ["faulty"])
    raise BadSystem(line, "unknown line")


def read_thing(line, words, budgets):
    """The job or task to be admitted that the words tell."""
    item = read_item(line, words, budgets, [])
    if item[0] == "job" and item[4] > 0:
        raise BadSystem(line, "out of range")
    return thing_of(item)
