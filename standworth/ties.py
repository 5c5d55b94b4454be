"""Ties between the worths of places, and the rows of worths that keep them."""

from standworth.errors import InvalidNumber, InvalidStanding, InvalidTie, NoRow, TooMany
from standworth.nets import Net
from standworth.planrows import demand_row
from standworth.rings import ring_below
from standworth.weblines import HOME
from standworth.words import is_number, is_place, is_standing
from standworth.worths import Worths

MOST_STANDINGS = 60
MOST_TIES = 200


def are_standings(values):
    """Whether any value is a list or tuple of at most 60 different standings."""
    if not isinstance(values, (list, tuple)) or len(values) > MOST_STANDINGS:
        return False
    if not all([is_standing(value) for value in values]):
        return False
    return len(set(values)) == len(values)


def is_tie(places, value):
    """Whether any value is a tie between two of some places."""
    if not isinstance(value, tuple) or len(value) != 3:
        return False
    start, end, most = value
    for place in (start, end):
        if not is_place(place) or place not in places:
            return False
    return start != end and is_number(most, -999, 999)


def check_ties(places, ties):
    """Refuse any value that is no list of at most 200 ties between some places."""
    if not isinstance(ties, (list, tuple)):
        raise InvalidTie(-1)
    for at, tie in enumerate(ties):
        if not is_tie(places, tie):
            raise InvalidTie(at)
    if len(ties) > MOST_TIES:
        raise TooMany(MOST_TIES)


def ties_that_count(standings, top, ties):
    """The ascending list of the ties that count, those of each standing with home among them."""
    told = [(HOME, standing, top) for standing in standings]
    told.extend([(standing, HOME, 0) for standing in standings])
    told.extend(ties)
    mosts = {}
    for start, end, most in told:
        mosts[(start, end)] = min(most, mosts.get((start, end), most))
    return [(start, end, mosts[(start, end)]) for start, end in sorted(list(mosts))]


def tie_net(standings, ties):
    """The net whose lines are ties, without bounds."""
    net = Net([HOME, *standings])
    for start, end, most in ties:
        net.enter(((start, end), start, end, None, most), 0)
    return net


class Ties:
    """Ties over a set of standings; they never change."""

    def __init__(self, standings, top, ties=()):
        if not are_standings(standings):
            raise InvalidStanding(standings)
        if not is_number(top, 1, 999):
            raise InvalidNumber(top)
        check_ties([HOME, *standings], ties)
        self.top = top
        self._standings = sorted(list(standings))
        self._ties = ties_that_count(self._standings, top, ties)

    def standings(self):
        """The ascending list of its standings."""
        return list(self._standings)

    def ties(self):
        """The ascending list of the ties that count."""
        return list(self._ties)

    def broken_tie(self, row):
        """The first tie that counts and that a row breaks, or None."""
        demand_row(self, row)
        for start, end, most in self._ties:
            if row.worth(end) - row.worth(start) > most:
                return (start, end, most)
        return None

    def keeps(self, row):
        """Whether a row keeps the ties."""
        return self.broken_tie(row) is None

    def broken_ring(self):
        """A list of ties that no row can keep together, or None."""
        arcs = [((start, end, most), start, end, most) for start, end, most in self._ties]
        return ring_below([HOME, *self._standings], arcs)

    def least_kept(self):
        """The row with the least worths of all rows that keep the ties."""
        demand_kept(self)
        turned = [(end, start, most) for start, end, most in self._ties]
        costs = tie_net(self._standings, turned).costs_from(HOME)
        return Worths({standing: -costs[standing] for standing in self._standings})

    def greatest_kept(self):
        """The row with the greatest worths of all rows that keep the ties."""
        demand_kept(self)
        costs = tie_net(self._standings, self._ties).costs_from(HOME)
        return Worths({standing: costs[standing] for standing in self._standings})

    def __len__(self):
        return len(self._ties)

    def __bool__(self):
        return True

    def __repr__(self):
        return f"Ties({len(self._ties)} ties)"


def demand_kept(ties):
    """Refuse ties that no row keeps."""
    ring = ties.broken_ring()
    if ring is not None:
        raise NoRow(ring)


def ties_of(web):
    """The ties of a web: those of its lines between standings that are endless."""
    told = [(start, end, fee) for _, start, end, room, fee, _ in web.line_sheets() if room is None]
    between = [tie for tie in told if HOME not in tie[:2]]
    return Ties(web.standings(), web.land.top, between)
