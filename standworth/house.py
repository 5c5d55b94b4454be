"""Houses: a week and its books, with a habit, a history and a journal."""

from standworth.answers import answer
from standworth.books import Books
from standworth.deeds import check_deeds, check_journal, play, week_behind
from standworth.errors import InvalidName, NothingLeft
from standworth.fitting import row_of
from standworth.postings import posting
from standworth.settled import settled_plan
from standworth.weeks import Week
from standworth.words import HABITS


class House:
    """A house; it begins with a week without askings and given crews."""

    FIRST = "least"

    def __init__(self, land):
        self._week = Week(land)
        self._books = Books()
        self._habit = self.FIRST
        self._busy = False
        # The weeks of the history never change, as deeds are done on twins.
        self._behind = []
        self._ahead = []
        self._journal = []
        self._log = []

    @property
    def many(self):
        """The number of askings."""
        return len(self._week)

    @property
    def day(self):
        """The present day of the books."""
        return self._books.day

    @property
    def busy(self):
        """Whether deeds are being done."""
        return self._busy

    @property
    def habit(self):
        """The habit."""
        return self._habit

    @habit.setter
    def habit(self, value):
        """Choose a habit."""
        self.choose(value)

    def choose(self, habit):
        """Choose a habit."""
        if habit not in HABITS:
            raise InvalidName(habit)
        self._habit = habit
        self._journal.append(("choose", habit))

    def do(self, *deeds):
        """Do all deeds, or none if one is refused."""
        week = self._tried_week(deeds)
        if len(deeds) > 0:
            self._behind.append(self._week)
            self._ahead = []
            self._week = week
            self._journal.append(("do", deeds))

    def undo(self):
        """Take the last step back."""
        if len(self._behind) == 0:
            raise NothingLeft()
        self._ahead.append(self._week)
        self._week = self._behind.pop()
        self._journal.append(("undo",))

    def redo(self):
        """Do the step again that was taken back last."""
        if len(self._ahead) == 0:
            raise NothingLeft()
        self._behind.append(self._week)
        self._week = self._ahead.pop()
        self._journal.append(("redo",))

    def history(self):
        """The pair of the numbers of steps that can be undone and redone."""
        return (len(self._behind), len(self._ahead))

    def tried(self, *deeds):
        """The text that the week would have behind some deeds."""
        return self._tried_week(deeds).text()

    def square(self):
        """Square the books with the posting of the settled plan at the row of the habit."""
        told = self._books.square(posting(self.plan(), self.row()))
        self._journal.append(("square",))
        return told

    def next_day(self):
        """Let the day of the books go on by one."""
        self._books.next_day()
        self._journal.append(("day",))

    def week(self):
        """A twin of the week."""
        return self._week.twin()

    def books(self):
        """A twin of the books."""
        return self._books.twin()

    def plan(self):
        """The settled plan."""
        return settled_plan(self._week.as_web())

    def row(self):
        """The row of the habit."""
        return row_of(self._week.as_web(), self._habit)

    def say(self, line):
        """The answer to a line."""
        told = answer(self, line)
        self._log.append((line, told))
        return told

    def __call__(self, line):
        return self.say(line)

    def log(self):
        """The list of the pairs of the lines that were said and their answers."""
        return list(self._log)

    def journal(self):
        """The list of what was called and not refused."""
        return list(self._journal)

    @classmethod
    def played(cls, land, journal):
        """The house that a journal leads to."""
        check_journal(journal)
        house = cls(land)
        for call in journal:
            play(house, call)
        return house

    def twin(self):
        """An independent house in the same state."""
        other = House(self._week.land)
        other._week = self._week
        other._books = self._books.twin()
        other._habit = self._habit
        other._behind = list(self._behind)
        other._ahead = list(self._ahead)
        other._journal = list(self._journal)
        other._log = list(self._log)
        return other

    def _tried_week(self, deeds):
        """The week behind some deeds; the house stays as it is."""
        check_deeds(deeds)
        self._busy = True
        try:
            return week_behind(self._week, deeds)
        finally:
            self._busy = False

    def __eq__(self, other):
        return isinstance(other, House) and self._week == other._week and self._habit == other._habit

    def __len__(self):
        return len(self._week)

    def __bool__(self):
        return True

    def __repr__(self):
        return f"House({len(self._week)} askings)"
