"""Deeds on weeks, and the journals of houses: what they look like, and doing what they tell."""

from standworth.errors import InvalidDeed
from standworth.words import HABITS

# The number of items of the tuple of each deed, and of each call in a journal but those with deeds.
DEEDS = {"ask": 2, "withdraw": 2, "change": 4, "give": 3}
CALLS = {"undo": 1, "redo": 1, "choose": 2, "square": 1, "day": 1}


def begins_with_word(value):
    """Whether any value is a tuple whose first item is a string."""
    return isinstance(value, tuple) and len(value) > 0 and isinstance(value[0], str)


def is_deed(value):
    """Whether any value is a tuple of the word of a deed and as many items as belong to it."""
    return begins_with_word(value) and DEEDS.get(value[0]) == len(value)


def check_deeds(deeds):
    """Refuse the first of some values that has no form of a deed."""
    for at, deed in enumerate(deeds):
        if not is_deed(deed):
            raise InvalidDeed(at)


def do_deed(week, deed):
    """Do a deed on a week."""
    word = deed[0]
    if word == "ask":
        week.ask(deed[1])
    elif word == "withdraw":
        week.withdraw(deed[1])
    elif word == "change":
        week.change(deed[1], deed[2], deed[3])
    else:
        week.give(deed[1], deed[2])


def week_behind(week, deeds):
    """A twin of a week on which some deeds are done."""
    twin = week.twin()
    for deed in deeds:
        do_deed(twin, deed)
    return twin


def is_doing(value):
    """Whether any value is a tuple of the word do and a tuple of one deed or more."""
    if not isinstance(value, tuple) or len(value) != 2:
        return False
    word, deeds = value
    if word != "do" or not isinstance(deeds, tuple) or len(deeds) == 0:
        return False
    return all([is_deed(deed) for deed in deeds])


def is_call(value):
    """Whether any value is a tuple that a journal may tell."""
    if is_doing(value):
        return True
    if not begins_with_word(value) or CALLS.get(value[0]) != len(value):
        return False
    return value[0] != "choose" or value[1] in HABITS


def check_journal(journal):
    """Refuse any value that is no journal."""
    if not isinstance(journal, (list, tuple)):
        raise InvalidDeed(-1)
    for at, call in enumerate(journal):
        if not is_call(call):
            raise InvalidDeed(at)


def play(house, call):
    """Call on a house what a tuple of a journal tells."""
    word = call[0]
    if word == "do":
        deeds = call[1]
        house.do(*deeds)
    elif word == "undo":
        house.undo()
    elif word == "redo":
        house.redo()
    elif word == "choose":
        house.choose(call[1])
    elif word == "square":
        house.square()
    else:
        house.next_day()
