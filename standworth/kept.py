"""A best plan that is kept while askings and given crews come and go."""

from standworth.best import best_plan
from standworth.errors import InvalidName, InvalidNumber
from standworth.more import demand_standing, plan_with, plan_with_given, plan_without
from standworth.planrows import row_by_habit
from standworth.webs import Web
from standworth.words import HABITS, is_number

MOST_GIVEN = 99


class Kept:
    """A best plan of a web that begins without askings."""

    def __init__(self, land, *, given=()):
        self._plan = best_plan(Web(land, given=given))

    @property
    def gain(self):
        """The greatest gain of the present web."""
        return self._plan.gain

    @property
    def many(self):
        """The number of askings."""
        return len(self._plan.web.askings())

    def put(self, asking):
        """Put an asking on."""
        self._plan = plan_with(self._plan, self._plan.web.with_asking(asking), asking)

    def take_off(self, name):
        """Take an asking off."""
        web = self._plan.web
        self._plan = plan_without(self._plan, web.without(name), web.asking(name))

    def give(self, standing, many):
        """Give so many crews more at a standing, or call crews away there."""
        demand_standing(self._plan.web, standing)
        if not is_number(many, -MOST_GIVEN, MOST_GIVEN):
            raise InvalidNumber(many)
        self._plan = plan_with_given(self._plan, self._plan.web.with_given(standing, many), standing, many)

    def as_web(self):
        """The present web."""
        return self._plan.web

    def plan(self):
        """The kept plan."""
        return self._plan

    def row(self, habit="least"):
        """The row of a habit for the present web."""
        if habit not in HABITS:
            raise InvalidName(habit)
        return row_by_habit(self._plan, habit)

    def twin(self):
        """An independent kept plan in the same state."""
        other = Kept(self._plan.web.land)
        other._plan = self._plan
        return other

    def __len__(self):
        return len(self._plan.web.askings())

    def __bool__(self):
        return True

    def __repr__(self):
        return f"Kept({len(self._plan.web.askings())} askings)"
