"""Rows of worths: a number for each of their standings."""

from standworth.errors import InvalidWorths, OtherStandings, UnknownStanding
from standworth.words import is_standing, is_whole


def is_worths(value):
    """Whether any value is a dict of standings to numbers."""
    if not isinstance(value, dict):
        return False
    return all([is_standing(standing) and is_whole(value[standing]) for standing in value])


class Worths:
    """A row of worths; the worth of home is always 0. It never changes."""

    def __init__(self, worths):
        if not is_worths(worths):
            raise InvalidWorths()
        self._worths = {standing: worths[standing] for standing in sorted(list(worths))}

    def worth(self, place):
        """The worth of one of its standings, or of home."""
        if isinstance(place, tuple) and len(place) == 0:
            return 0
        # A standing is asked for first, as (yard, True) would be found as (yard, 1).
        if not is_standing(place) or place not in self._worths:
            raise UnknownStanding(place)
        return self._worths[place]

    def standings(self):
        """The ascending list of its standings."""
        return list(self._worths)

    def worths(self):
        """A dict of its standings to their worths."""
        return {standing: self._worths[standing] for standing in self._worths}

    def __and__(self, other):
        pairs = paired(self, other)
        return Worths({standing: min(pairs[standing]) for standing in pairs})

    def __or__(self, other):
        pairs = paired(self, other)
        return Worths({standing: max(pairs[standing]) for standing in pairs})

    def between(self, other):
        """The row with the halves of the sums, rounded down."""
        pairs = paired(self, other)
        return Worths({standing: sum(pairs[standing]) // 2 for standing in pairs})

    def is_below(self, other):
        """Whether no worth is greater than that of the other row."""
        pairs = paired(self, other)
        return all([pairs[standing][0] <= pairs[standing][1] for standing in pairs])

    def part(self, since):
        """The row with the standings whose hour is at least since."""
        return Worths({standing: self._worths[standing] for standing in self._worths if standing[1] >= since})

    def __eq__(self, other):
        return isinstance(other, Worths) and self._worths == other._worths

    def __len__(self):
        return len(self._worths)

    def __bool__(self):
        return True

    def __repr__(self):
        return f"Worths({len(self._worths)} standings)"


def paired(row, other):
    """A dict of the standings of a row to the pairs of its worth and that in any other value."""
    if not isinstance(other, Worths) or list(row._worths) != list(other._worths):
        raise OtherStandings()
    return {standing: (row._worths[standing], other._worths[standing]) for standing in row._worths}


def demand_rows(rows):
    """Refuse no rows at all, and values that are no rows."""
    if len(rows) == 0 or not all([isinstance(row, Worths) for row in rows]):
        raise InvalidWorths()


def met(*rows):
    """The row with the least worths of one row or more."""
    demand_rows(rows)
    least = rows[0]
    for row in rows[1:]:
        least = least & row
    return least


def joined(*rows):
    """The row with the greatest worths of one row or more."""
    demand_rows(rows)
    greatest = rows[0]
    for row in rows[1:]:
        greatest = greatest | row
    return greatest
