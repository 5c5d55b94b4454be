"""Rotas: the ways of single crews through a web."""

from standworth.errors import InvalidRota, InvalidStanding
from standworth.planrows import demand_row, line_gap
from standworth.plans import Plan
from standworth.weblines import HOME
from standworth.words import is_key, is_place


class Rota:
    """The way of one crew over lines, from a first place to a last one; it never changes."""

    def __init__(self, lines, *, first=(), last=()):
        if not isinstance(lines, (list, tuple)) or len(lines) == 0:
            raise InvalidRota(-1)
        for at, key in enumerate(lines):
            if not is_key(key):
                raise InvalidRota(at)
        for place in (first, last):
            if not is_place(place):
                raise InvalidStanding(place)
        self.first = first
        self.last = last
        self._keys = list(lines)

    def lines(self):
        """The list of the keys of its lines."""
        return list(self._keys)

    def __eq__(self, other):
        if not isinstance(other, Rota) or self.first != other.first or self.last != other.last:
            return False
        return self._keys == other._keys

    def __len__(self):
        return len(self._keys)

    def __repr__(self):
        return f"Rota({len(self._keys)} lines)"


def follows(web, rota):
    """Whether any value is a rota that follows a web."""
    if not isinstance(rota, Rota) or not all([web.has_line(key) for key in rota.lines()]):
        return False
    sheets = [web.line_sheet(key) for key in rota.lines()]
    starts = [sheet[1] for sheet in sheets]
    ends = [sheet[2] for sheet in sheets]
    return [rota.first, *ends] == [*starts, rota.last] and HOME not in ends[:-1]


def demand_rota(web, rota):
    """Refuse any value that is no rota that follows a web."""
    if not follows(web, rota):
        raise InvalidRota(0)


def earnings(web, rota):
    """Minus the sum of the fees of the lines of a rota."""
    demand_rota(web, rota)
    return -sum([web.line_sheet(key)[4] for key in rota.lines()])


def trail(web, rota, row):
    """For each place of a rota the tuple (place, earnings so far, worth, what the lines so far are dealt)."""
    demand_rota(web, rota)
    demand_row(web, row)
    earned, dealt = 0, 0
    yield (rota.first, earned, row.worth(rota.first), dealt)
    for key in rota.lines():
        sheet = web.line_sheet(key)
        earned -= sheet[4]
        dealt += line_gap(row, sheet) - sheet[4]
        yield (sheet[2], earned, row.worth(sheet[2]), dealt)


class Crews:
    """The crews of a plan on their ways, each one with its number."""

    def __init__(self, plan):
        self._plan = plan
        self._firsts = []
        self._lasts = []
        self._lines = []
        self._on_line = {key: [] for key in plan.web.line_keys()}
        self._given = {}

    def begin(self):
        """Let a crew begin for each amount of a line from home, and then for each given crew."""
        web = self._plan.web
        for key in web.lines_from(HOME):
            for _ in range(self._plan.amount(key)):
                self._take(self._added(HOME), key)
        for standing, many in web.given():
            self._given[standing] = []
            for _ in range(many):
                self._given[standing].append(self._added(standing))

    def lead_on(self, standing):
        """Lead the crews that are at a standing over the lines from there, and let the others end there."""
        web = self._plan.web
        here = []
        for key in web.lines_to(standing):
            here.extend(sorted(self._on_line[key]))
        here.extend(self._given.get(standing, []))
        onward = [key for key in web.lines_from(standing) for _ in range(self._plan.amount(key))]
        for number, key in zip(here, onward):
            self._take(number, key)
        for number in here[len(onward):]:
            self._lasts[number] = standing

    def rotas(self):
        """The list of the rotas of the crews, by their numbers."""
        told = list(zip(self._lines, self._firsts, self._lasts))
        return [Rota(lines, first=first, last=last) for lines, first, last in told]

    def _added(self, first):
        self._firsts.append(first)
        self._lasts.append(HOME)
        self._lines.append([])
        return len(self._lines) - 1

    def _take(self, number, key):
        self._lines[number].append(key)
        self._on_line[key].append(number)


def parted(plan):
    """The list of the rotas into which a plan is parted, by their numbers."""
    crews = Crews(plan)
    crews.begin()
    for standing in sorted(plan.web.standings(), key=lambda place: (place[1], place[0])):
        crews.lead_on(standing)
    return crews.rotas()


def put_together(web, rotas):
    """The plan whose amounts are the numbers of the crews that rotas lead over each line."""
    if not isinstance(rotas, (list, tuple)):
        raise InvalidRota(-1)
    amounts = {}
    for at, rota in enumerate(rotas):
        if not follows(web, rota):
            raise InvalidRota(at)
        for key in rota.lines():
            amounts[key] = amounts.get(key, 0) + 1
    return Plan(web, amounts)
