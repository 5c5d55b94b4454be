"""What webs and weeks demand of the askings and given crews that they are made from."""

from standworth.askings import Hire, Work
from standworth.errors import AboveTop, DuplicateName, InvalidAsking, InvalidGiven, TooMany, UnknownStanding
from standworth.words import is_whole

MOST_ASKINGS = 24


def check_asking(land, asking):
    """Refuse an asking at standings that are none of the land, and a hire above the top."""
    if isinstance(asking, Work) and not land.has(asking.start):
        raise UnknownStanding(asking.start)
    if not land.has(asking.end):
        raise UnknownStanding(asking.end)
    if isinstance(asking, Hire) and asking.price > land.top:
        raise AboveTop(asking.name)


def check_names_differ(askings):
    """Refuse the first asking whose name stands ahead of it."""
    names = set()
    for asking in askings:
        if asking.name in names:
            raise DuplicateName(asking.name)
        names.add(asking.name)


def check_askings(land, askings):
    """Refuse any value that is no list of askings of the land."""
    if not isinstance(askings, (list, tuple)):
        raise InvalidAsking(-1)
    for at, asking in enumerate(askings):
        if not isinstance(asking, (Work, Hire)):
            raise InvalidAsking(at)
    if len(askings) > MOST_ASKINGS:
        raise TooMany(MOST_ASKINGS)
    check_names_differ(askings)
    for asking in askings:
        check_asking(land, asking)


def is_given(land, value, most):
    """Whether any value is a pair of a standing and a number, which is bounded unless most is None."""
    if not isinstance(value, tuple) or len(value) != 2:
        return False
    standing, many = value
    return land.has(standing) and is_whole(many) and (most is None or -most <= many <= most)


def check_given(land, given, most):
    """Refuse any value that is no list of given crews at different standings of the land."""
    if not isinstance(given, (list, tuple)):
        raise InvalidGiven(-1)
    told = set()
    for at, item in enumerate(given):
        if not is_given(land, item, most) or item[0] in told:
            raise InvalidGiven(at)
        told.add(item[0])
