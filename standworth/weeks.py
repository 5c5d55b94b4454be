"""Weeks: a land with the askings and the given crews that are known."""

from standworth.errors import InvalidNumber, TooMany, UnknownStanding
from standworth.webchecks import check_asking, check_askings, check_given
from standworth.webs import Web
from standworth.weekforms import written_week
from standworth.weekreading import read_parts
from standworth.words import is_number

MOST_GIVEN = 99


class Week:
    """A week, on which askings and given crews come and go."""

    MOST = 24

    def __init__(self, land, askings=(), *, given=()):
        check_askings(land, askings)
        check_given(land, given, MOST_GIVEN)
        self.land = land
        self._web = Web(land, askings, given=given)

    def askings(self):
        """The list of its askings in the order of ranks."""
        return self._web.askings()

    def asking(self, name):
        """The asking with a name."""
        return self._web.asking(name)

    def given(self):
        """The ascending list of the pairs of standings and given crews other than 0."""
        return self._web.given()

    def given_at(self, standing):
        """The given crews at a standing of the land, 0 for any other value."""
        return self._web.given_at(standing)

    def ask(self, asking):
        """Put an asking on."""
        self._web = self._web.with_asking(asking)

    def withdraw(self, name):
        """Take an asking off."""
        self._web = self._web.without(name)

    def change(self, name, crews, price):
        """Give an asking another number of crews and another price."""
        asking = self._web.asking(name).with_terms(crews, price)
        check_asking(self.land, asking)
        self._web = self._web.without(name).with_asking(asking)

    def give(self, standing, many):
        """Give so many crews more at a standing, or call crews away."""
        if not self.land.has(standing):
            raise UnknownStanding(standing)
        if not is_number(many, -MOST_GIVEN, MOST_GIVEN):
            raise InvalidNumber(many)
        if abs(self._web.given_at(standing) + many) > MOST_GIVEN:
            raise TooMany(MOST_GIVEN)
        self._web = self._web.with_given(standing, many)

    def as_web(self, since=0):
        """The web of the week from an hour on."""
        return Web(self.land, self._web.askings(), given=self._web.given(), since=since)

    def text(self):
        """The text of the week."""
        return written_week(self.land, self._web.askings(), self._web.given())

    @staticmethod
    def read(text):
        """The week with a text."""
        land, askings, given, _ = read_parts(text, True)
        return Week(land, askings, given=given)

    def twin(self):
        """An independent equal week."""
        return Week(self.land, self._web.askings(), given=self._web.given())

    def __contains__(self, name):
        return self._web.has_asking(name)

    def __eq__(self, other):
        return isinstance(other, Week) and self._web == other._web

    def __len__(self):
        return len(self._web.askings())

    def __bool__(self):
        return True

    def __repr__(self):
        return f"Week({len(self._web.askings())} askings)"
