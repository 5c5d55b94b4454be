"""Webs: the places of a week from some hour on, and all lines between them."""

from standworth.askings import by_rank
from standworth.errors import InvalidNumber, Over, UnknownLine, UnknownName, UnknownStanding
from standworth.webchecks import check_askings, check_given
from standworth.weblines import HOME, keys_at, web_sheets
from standworth.words import is_key, is_name, is_number, is_place, is_standing, is_whole


class Web:
    """A web; it never changes."""

    def __init__(self, land, askings=(), *, given=(), since=0):
        check_askings(land, askings)
        check_given(land, given, None)
        if not is_number(since, 0, land.last + 1):
            raise InvalidNumber(since)
        self.land = land
        self.since = since
        known = by_rank([asking for asking in askings if asking.begins >= since])
        self._askings = {asking.name: asking for asking in known}
        self._given = {item[0]: item[1] for item in sorted(given) if item[1] != 0 and item[0][1] >= since}
        self._standings = land.standings(since)
        sheets = web_sheets(land, known, since)
        self._sheets = {sheet[0]: sheet for sheet in sheets}
        self._keys_from = keys_at(self.places(), sheets, 1)
        self._keys_to = keys_at(self.places(), sheets, 2)

    def askings(self):
        """The list of its askings in the order of ranks."""
        return [self._askings[name] for name in self._askings]

    def asking(self, name):
        """The asking with a name."""
        if not self.has_asking(name):
            raise UnknownName(name)
        return self._askings[name]

    def has_asking(self, name):
        """Whether any value is the name of one of its askings."""
        return is_name(name) and name in self._askings

    def given(self):
        """The ascending list of the pairs of standings and given crews other than 0."""
        return [(standing, self._given[standing]) for standing in self._given]

    def given_at(self, standing):
        """The given crews at one of its standings, 0 for any other value."""
        if not is_standing(standing):
            return 0
        return self._given.get(standing, 0)

    def standings(self):
        """The ascending list of its standings."""
        return list(self._standings)

    def places(self):
        """Home and its standings, ascending."""
        return [HOME, *self._standings]

    def owners(self):
        """The ascending list of the owners of its askings."""
        return sorted({self._askings[name].owner for name in self._askings})

    def line_keys(self):
        """The list of the keys of its lines, in order."""
        return list(self._sheets)

    def line_sheet(self, key):
        """The sheet of a line."""
        if not self.has_line(key):
            raise UnknownLine(key)
        return self._sheets[key]

    def line_sheets(self):
        """The list of the sheets of its lines, in order."""
        return [self._sheets[key] for key in self._sheets]

    def lines_from(self, place):
        """The list of the keys of the lines that start at a place, in order."""
        if not self.has_place(place):
            raise UnknownStanding(place)
        return list(self._keys_from[place])

    def lines_to(self, place):
        """The list of the keys of the lines that end at a place, in order."""
        if not self.has_place(place):
            raise UnknownStanding(place)
        return list(self._keys_to[place])

    def has_line(self, key):
        """Whether any value is the key of one of its lines."""
        # A key is asked for first, as one with True would be found as one with 1.
        return is_key(key) and key in self._sheets

    def has_place(self, place):
        """Whether any value is one of its places."""
        return is_place(place) and place in self._keys_from

    def with_asking(self, asking):
        """The web with one more asking."""
        web = Web(self.land, [*self.askings(), asking], given=self.given(), since=self.since)
        if asking.begins < self.since:
            raise Over(asking.begins)
        return web

    def without(self, name):
        """The web without an asking."""
        gone = self.asking(name)
        askings = [asking for asking in self.askings() if asking.name != gone.name]
        return Web(self.land, askings, given=self.given(), since=self.since)

    def with_given(self, standing, many):
        """The web with so many crews more given at a standing."""
        if not is_standing(standing) or not self.has_place(standing):
            raise UnknownStanding(standing)
        if not is_whole(many):
            raise InvalidNumber(many)
        given = {place: self._given[place] for place in self._given}
        given[standing] = self.given_at(standing) + many
        return Web(self.land, self.askings(), given=list(given.items()), since=self.since)

    def of_owners(self, owners):
        """The web with the askings of some owners alone."""
        askings = [asking for asking in self.askings() if asking.owner in owners]
        return Web(self.land, askings, given=self.given(), since=self.since)

    def __eq__(self, other):
        if not isinstance(other, Web) or self.land != other.land or self.since != other.since:
            return False
        return self._askings == other._askings and self._given == other._given

    def __len__(self):
        return len(self._sheets)

    def __bool__(self):
        return True

    def __repr__(self):
        return f"Web({len(self._standings)} standings, {len(self._sheets)} lines)"
