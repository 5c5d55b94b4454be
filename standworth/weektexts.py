"""The texts of weeks: writing and reading them."""

from standworth.weekreading import read_parts
from standworth.weeks import Week


def week_text(week):
    """The text of a week."""
    return week.text()


def read_week(text):
    """The week with a text."""
    land, askings, given, _ = read_parts(text, True)
    return Week(land, askings, given=given)


def read_head(text):
    """The pair of the week whose text a string begins with, and the number of its lines."""
    land, askings, given, lines = read_parts(text, False)
    return (Week(land, askings, given=given), lines)
