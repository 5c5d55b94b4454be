"""Rows of worths beside plans: what fits, and the least, the greatest and the middle row that fit best plans."""

from standworth.best import best_plan
from standworth.errors import InvalidName
from standworth.planrows import (
    breaks, demand_row, given_worth, greatest_of, least_of, line_gap, most_dealt, row_by_habit,
)
from standworth.words import HABITS


def misfit(plan, row):
    """The key of the first line at which a row does not fit a plan, or None."""
    demand_row(plan.web, row)
    for sheet in plan.web.line_sheets():
        if breaks(plan.amount(sheet[0]), sheet[3], line_gap(row, sheet), sheet[4]):
            return sheet[0]
    return None


def fits(plan, row):
    """Whether a row fits a plan."""
    return misfit(plan, row) is None


def ceiling(web, row):
    """What no plan of a web gains more than, by a row; None if the row tells nothing."""
    demand_row(web, row)
    dealt = most_dealt(web.line_sheets(), row)
    return None if dealt is None else dealt + given_worth(web, row)


def least_row(web):
    """The row with the least worths of all rows that fit the best plans of a web."""
    return least_of(best_plan(web))


def greatest_row(web):
    """The row with the greatest worths of all rows that fit the best plans of a web."""
    return greatest_of(best_plan(web))


def middle_row(web):
    """The row with the halves, rounded down, of the sums of the least and the greatest worths."""
    return row_of(web, "middle")


def row_of(web, habit):
    """The row of a habit."""
    if habit not in HABITS:
        raise InvalidName(habit)
    return row_by_habit(best_plan(web), habit)


def ends(web):
    """A dict of the standings of a web to the pairs of their least and their greatest worth."""
    plan = best_plan(web)
    least, greatest = least_of(plan), greatest_of(plan)
    return {standing: (least.worth(standing), greatest.worth(standing)) for standing in web.standings()}
