"""Replaying a log."""
from faultdue.desk import Desk
from faultdue.entries import is_entry
from faultdue.errors import BadEntry, BadState, BadSystem


def replay(budgets, log):
    """The desk that a log makes with the budgets of the beginning (k9)."""
    desk = Desk(budgets)
    for place, entry in enumerate(log):
        if not is_entry(entry) or not is_done(desk, entry):
            raise BadEntry(place)
    return desk


def is_done(desk, entry):
    """Do the deed of an entry at the desk: can it be done, and is it not refused?"""
    try:
        return do_deed(desk, entry)
    except (BadState, BadSystem):
        return False


def do_deed(desk, entry):
    """Do the deed of an entry at the desk: is it not refused?"""
    word, value = entry[:2]
    if word == "admit":
        return desk.admit(value) == ("admitted",)
    if word == "grant":
        return desk.grant(value, entry[2]) == ("granted",)
    if word == "arrive":
        desk.arrive(value)
    elif word == "cancel":
        desk.cancel(value)
    elif word == "run":
        desk.run(value)
    else:
        desk.report(value)
    return True
