"""Led weeks: a week that goes on hour by hour, with late news."""

from standworth.best import best_gain
from standworth.books import Books
from standworth.errors import InvalidName, Over
from standworth.planrows import row_by_habit
from standworth.plans import Plan
from standworth.postings import begins_at, posted
from standworth.settled import settled_plan
from standworth.weblines import HOME
from standworth.webs import Web
from standworth.weeks import Week
from standworth.words import HABITS


def rest_web(web, gone, hour):
    """The web that is left of the web of a week at an hour, from the amounts of the lines that are gone."""
    given = {standing: web.given_at(standing) for standing in web.standings()}
    for key in gone:
        end = web.line_sheet(key)[2]
        if end != HOME:
            given[end] += gone[key]
    return Web(web.land, web.askings(), given=list(given.items()), since=hour)


class Led:
    """A led week; the week that is handed in is kept as a twin."""

    def __init__(self, week, *, habit="least"):
        if habit not in HABITS:
            raise InvalidName(habit)
        self.row_habit = habit
        self._hour = 0
        self._gone = {}
        self._books = Books()
        self._take_in(week.twin())

    @property
    def hour(self):
        """The present hour."""
        return self._hour

    @property
    def ended(self):
        """Whether the week is ended."""
        return self._hour > self._week.land.last

    @property
    def gain(self):
        """The gain of the led plan."""
        return self._plan.gain

    def go(self):
        """Let the hour go on by one, and post what begins at it."""
        if self.ended:
            raise Over(self._hour)
        amounts = self._plan.amounts()
        for key in amounts:
            sheet = self._plan.web.line_sheet(key)
            if begins_at(sheet) == self._hour:
                _, done, entries = posted(sheet, amounts[key], self._row)
                self._books.post(key, done, entries)
                self._gone[key] = amounts[key]
        self._books.next_day()
        self._hour += 1
        self._row = self._row.part(self._hour)

    def ask(self, asking):
        """News: an asking comes."""
        week = self._week.twin()
        week.ask(asking)
        self._hear(week, asking.begins)

    def withdraw(self, name):
        """News: an asking is withdrawn."""
        week = self._week.twin()
        asking = week.asking(name)
        week.withdraw(name)
        self._hear(week, asking.begins)

    def change(self, name, crews, price):
        """News: an asking gets another number of crews and another price."""
        week = self._week.twin()
        week.change(name, crews, price)
        self._hear(week, week.asking(name).begins)

    def give(self, standing, many):
        """News: so many crews more are given at a standing, or called away there."""
        week = self._week.twin()
        week.give(standing, many)
        self._hear(week, standing[1])

    def known(self):
        """A twin of the week that is known now."""
        return self._week.twin()

    def rest(self):
        """The rest web."""
        return rest_web(self._week.as_web(), self._gone, self._hour)

    def plan(self):
        """The led plan."""
        return self._plan

    def row(self):
        """The kept row."""
        return self._row

    def lost(self):
        """The price of not knowing."""
        return best_gain(self._plan.web) - self._plan.gain

    def books(self):
        """A twin of the books."""
        return self._books.twin()

    def twin(self):
        """An independent led week in the same state."""
        other = Led(Week(self._week.land), habit=self.row_habit)
        other._hour = self._hour
        other._gone = {key: self._gone[key] for key in self._gone}
        other._books = self._books.twin()
        other._week = self._week
        other._plan = self._plan
        other._row = self._row
        return other

    def _hear(self, week, begins):
        """Take in the week behind a piece of news that is about an hour."""
        if begins < self._hour:
            raise Over(begins)
        self._take_in(week)

    def _take_in(self, week):
        """Plan what is left of a week that nothing else changes."""
        web = week.as_web()
        settled = settled_plan(rest_web(web, self._gone, self._hour))
        amounts = settled.amounts()
        for key in self._gone:
            amounts[key] = self._gone[key]
        self._week = week
        self._plan = Plan(web, amounts)
        self._row = row_by_habit(settled, self.row_habit)

    def __repr__(self):
        return f"Led(hour {self._hour})"
