"""Lands: the yards of a week, the roads between them, the last hour and the top."""

from standworth.errors import InvalidNumber, InvalidRoad, InvalidYard, TooMany, UnknownName
from standworth.words import is_name, is_number, is_standing

MOST_ROADS = 8


def is_yard(value):
    """Whether any value is a yard: a tuple (name, fee, beds)."""
    if not isinstance(value, tuple) or len(value) != 3:
        return False
    name, fee, beds = value
    return is_name(name) and is_number(fee, 0, 999) and (beds is None or is_number(beds, 1, 99))


def is_road(value):
    """Whether any value is a road: a tuple (yard, other, hours, fee)."""
    if not isinstance(value, tuple) or len(value) != 4:
        return False
    yard, other, hours, fee = value
    if not is_name(yard) or not is_name(other) or yard == other:
        return False
    return is_number(hours, 1, 8) and is_number(fee, 0, 999)


def yards_by_name(yards):
    """The ascending dict of names to yards that any value tells."""
    if not isinstance(yards, (list, tuple)) or len(yards) == 0:
        raise InvalidYard(-1)
    found = {}
    for at, yard in enumerate(yards):
        if not is_yard(yard) or yard[0] in found:
            raise InvalidYard(at)
        found[yard[0]] = yard
    if len(found) > Land.YARDS:
        raise TooMany(Land.YARDS)
    return {name: found[name] for name in sorted(list(found))}


def roads_by_ends(roads, yards):
    """The ascending dict of pairs (yard, other) to roads that any value tells."""
    if not isinstance(roads, (list, tuple)):
        raise InvalidRoad(-1)
    found = {}
    for at, road in enumerate(roads):
        if not is_road(road) or road[0] not in yards or road[1] not in yards or road[:2] in found:
            raise InvalidRoad(at)
        found[road[:2]] = road
    if len(found) > MOST_ROADS:
        raise TooMany(MOST_ROADS)
    return {ends: found[ends] for ends in sorted(list(found))}


class Land:
    """A land; it never changes."""

    YARDS = 6

    def __init__(self, last, top, yards, *, roads=()):
        if not is_number(last, 0, 8):
            raise InvalidNumber(last)
        if not is_number(top, 1, 999):
            raise InvalidNumber(top)
        self._yards = yards_by_name(yards)
        self._roads = roads_by_ends(roads, self._yards)
        self.last = last
        self.top = top

    def yards(self):
        """The list of the yards, ascending by their names."""
        return [self._yards[name] for name in self._yards]

    def roads(self):
        """The list of the roads, ascending by their two yards."""
        return [self._roads[ends] for ends in self._roads]

    def yard(self, name):
        """The yard with a name."""
        if not is_name(name) or name not in self._yards:
            raise UnknownName(name)
        return self._yards[name]

    def standings(self, since=0):
        """The ascending list of the standings with an hour from since on."""
        return [(name, hour) for name in self._yards for hour in range(max(0, since), self.last + 1)]

    def has(self, standing):
        """Whether any value is a standing of the land."""
        return is_standing(standing) and standing[0] in self._yards and standing[1] <= self.last

    def __eq__(self, other):
        if not isinstance(other, Land) or self.last != other.last or self.top != other.top:
            return False
        return self._yards == other._yards and self._roads == other._roads

    def __len__(self):
        return len(self._yards)

    def __repr__(self):
        return f"Land({len(self._yards)} yards, {len(self._roads)} roads)"
