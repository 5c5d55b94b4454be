"""Reading the text of a week line by line, up to the first line that cannot stand."""

from standworth.askings import Hire, Work
from standworth.errors import InvalidText
from standworth.lands import Land
from standworth.weekforms import line_form

PARTS = {"week": 0, "yard": 1, "road": 2, "work": 3, "hire": 3, "given": 4, "end": 5}
MOST_LINES = {1: 6, 2: 8, 3: 24}
END = 5


def order_of(kind, values):
    """What the lines of one part are in ascending order of."""
    if kind in ("road", "given"):
        return (values[0], values[1])
    if kind in ("work", "hire"):
        return (values[2], values[0])
    return values[0]


def standings_in(kind, values):
    """The standings that a line names; a yard that a road names stands there with the hour 0."""
    if kind == "road":
        return [(values[0], 0), (values[1], 0)]
    if kind == "work":
        return [(values[3], values[4]), (values[5], values[6])]
    if kind == "hire":
        return [(values[3], values[4])]
    if kind == "given":
        return [(values[0], values[1])]
    return []


def told_asking(kind, values):
    """The asking that the values of a line work or hire tell."""
    name, owner, rank = values[:3]
    crews, price = values[-2:]
    standings = standings_in(kind, values)
    if kind == "work":
        return Work(name, owner, standings[0], standings[1], crews, price, rank=rank)
    return Hire(name, owner, standings[0], crews, price, rank=rank)


class WeekReader:
    """What the lines so far of the text of a week have told."""

    def __init__(self):
        self._part = -1
        self._orders = []
        self._bounds = []
        self._yards = []
        self._roads = []
        self._askings = []
        self._given = []

    def take(self, line):
        """Take the next line in; the word that tells why it cannot stand, or None if it can."""
        form = line_form(line)
        if form is None or not self._may_stand(form[0]):
            return "form"
        kind, values = form
        why = self._fault(kind, values)
        if why is None:
            self._enter(kind, values)
        return why

    def is_ended(self):
        """Whether the line end has been taken in."""
        return self._part == END

    def told(self):
        """The land, the askings and the given crews that an ended text has told."""
        last, top = self._bounds
        return (Land(last, top, self._yards, roads=self._roads), list(self._askings), list(self._given))

    def _may_stand(self, kind):
        if self._part < 1:
            return PARTS[kind] == self._part + 1
        return self._part <= PARTS[kind] and self._part != END

    def _fault(self, kind, values):
        part = PARTS[kind]
        if part == self._part:
            if part in MOST_LINES and len(self._orders) >= MOST_LINES[part]:
                return "many"
            if order_of(kind, values) <= self._orders[-1]:
                return "order"
        if kind in ("work", "hire") and values[0] in [asking.name for asking in self._askings]:
            return "double"
        if not all([self._is_known(standing) for standing in standings_in(kind, values)]):
            return "unknown"
        if kind == "hire" and values[-1] > self._bounds[1]:
            return "top"
        return None

    def _is_known(self, standing):
        return standing[0] in [yard[0] for yard in self._yards] and standing[1] <= self._bounds[0]

    def _enter(self, kind, values):
        if PARTS[kind] != self._part:
            self._part = PARTS[kind]
            self._orders = []
        if kind != "end":
            self._orders.append(order_of(kind, values))
        if kind == "week":
            self._bounds = values
        elif kind == "yard":
            self._yards.append(tuple(values))
        elif kind == "road":
            self._roads.append(tuple(values))
        elif kind == "given":
            self._given.append(((values[0], values[1]), values[2]))
        elif kind != "end":
            self._askings.append(told_asking(kind, values))


def lines_taken(reader, text, first, alone):
    """The number of lines of a text up to the one with which a reader is ended, taken in from an index on.

    Behind that line nothing may stand if the text must be alone, and anything if not.
    """
    lines = text.split("\n")
    rest = lines.pop()
    for at in range(first, len(lines)):
        why = reader.take(lines[at])
        if why is not None:
            raise InvalidText(at, why)
        if reader.is_ended() and not alone:
            return at + 1
    if rest != "":
        raise InvalidText(len(lines), "form")
    if not reader.is_ended():
        raise InvalidText(len(lines), "missing")
    return len(lines)


def read_parts(text, alone):
    """The land, the askings, the given crews and the number of lines of the week that any value tells.

    Behind its line end nothing may stand if the text must be alone, and anything if not.
    """
    if not isinstance(text, str):
        raise InvalidText(0, "form")
    reader = WeekReader()
    lines = lines_taken(reader, text, 0, alone)
    land, askings, given = reader.told()
    return (land, askings, given, lines)
