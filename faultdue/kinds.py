"""What a value has to look like, asked of anything that callers may hand in."""

MOST_LETTERS = 8
MOST_DIGITS = 6


def is_between(value, low, high):
    """Is the value an integer from low to high?"""
    # Python counts True and False as integers; the document does not.
    return isinstance(value, int) and not isinstance(value, bool) and low <= value <= high


def is_count(value):
    """Is the value an integer from 0 on?"""
    return isinstance(value, int) and not isinstance(value, bool) and value >= 0


def is_row(value, fewest, most):
    """Is the value a tuple of fewest to most things?"""
    return isinstance(value, tuple) and fewest <= len(value) <= most


def is_name(value):
    """Is the value the name of a budget (b1)?"""
    if not isinstance(value, str) or not 1 <= len(value) <= MOST_LETTERS:
        return False
    return all("a" <= letter <= "z" for letter in value)


def is_number(word):
    """Is the word a number as texts write it (s6)?"""
    # Compared one by one, because isdigit takes digits of other scripts, too.
    if not 1 <= len(word) <= MOST_DIGITS or not all("0" <= digit <= "9" for digit in word):
        return False
    return word == "0" or word[0] != "0"


def is_item_name(value):
    """Is the value the name of a job or task (s3)?"""
    if not isinstance(value, str):
        return False
    stem, point, number = value.partition(".")
    return is_name(stem) and (point == "" or is_number(number))
