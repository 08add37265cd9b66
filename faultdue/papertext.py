"""Texts of papers: how they are written and read."""
from faultdue.errors import BadSystem
from faultdue.kinds import is_number
from faultdue.text import MOST_CHARACTERS, rows_of


def shown_paper(paper):
    """The text of a paper (h3)."""
    if paper[0] == "sure":
        rows = [("sure",)] + [("prices",) + prices for prices in paper[1]]
    else:
        rows = [paper[:3], ("faults",) + paper[3]]
    return "".join([" ".join([str(word) for word in row]) + "\n" for row in rows])


def parse_paper(text, many):
    """The paper of a text for so many budgets; raise BadSystem where there is none (h3)."""
    rows, last = rows_of(text, MOST_CHARACTERS)
    kinds, told = [], []
    for line, words in rows:
        if words[0] not in kinds_behind(kinds):
            raise BadSystem(line, "unknown line")
        kinds.append(words[0])
        told.append(read_numbers(line, words, many))
    if not kinds:
        raise BadSystem(last, "paper expected")
    if kinds[0] == "sure":
        return ("sure", tuple(told[1:]))
    if len(kinds) == 1:
        raise BadSystem(last, "faults expected")
    return ("unsure",) + told[0] + (told[1],)


def kinds_behind(kinds):
    """The first words of lines that can stand behind lines with these first words."""
    if not kinds:
        return ("sure", "unsure")
    if kinds[0] == "sure":
        return ("prices",)
    return ("faults",) if len(kinds) == 1 else ()


def read_numbers(line, words, many):
    """The numbers behind the first word of a line, for so many budgets."""
    counts = {"sure": 0, "unsure": 2, "prices": many, "faults": many}
    numbers = words[1:]
    if len(numbers) != counts[words[0]]:
        raise BadSystem(line, "wrong number of words")
    if not all([is_number(number) for number in numbers]):
        raise BadSystem(line, "not a number")
    return tuple([int(number) for number in numbers])
