"""What owners and the town are due, what owners wish, and what they bring."""

from standworth.best import best_gain
from standworth.errors import NotFitting, UnknownName
from standworth.fitting import misfit
from standworth.planrows import demand_row, given_worth, line_gap, most_dealt
from standworth.weblines import TOWN


def demand_fitting(plan, row):
    """Refuse a row that does not fit a plan."""
    key = misfit(plan, row)
    if key is not None:
        raise NotFitting(key)


def demand_owner(web, owner):
    """Refuse any value that is no owner of an asking of a web."""
    if owner not in web.owners():
        raise UnknownName(owner)


def sheet_due(plan, row, sheet):
    """The due of the line of a sheet."""
    return plan.amount(sheet[0]) * (line_gap(row, sheet) - sheet[4])


def line_due(plan, row, key):
    """The due of a line, for a best plan and a row that fits it."""
    demand_fitting(plan, row)
    return sheet_due(plan, row, plan.web.line_sheet(key))


def dues(plan, row):
    """A dict of the owners of askings, and of the town, to their dues."""
    demand_fitting(plan, row)
    told = {owner: 0 for owner in [TOWN, *plan.web.owners()]}
    for sheet in plan.web.line_sheets():
        told[sheet[5]] += sheet_due(plan, row, sheet)
    return told


def stock(web, row):
    """The sum of given crews times worth."""
    demand_row(web, row)
    return given_worth(web, row)


def wish(web, row, owner):
    """The most that an owner, or the town, could get at a row; None for the town if there is no most."""
    demand_row(web, row)
    if owner != TOWN:
        demand_owner(web, owner)
    return most_dealt([sheet for sheet in web.line_sheets() if sheet[5] == owner], row)


def own_gain(web, owners):
    """The greatest gain of a web that has only the askings of some owners."""
    for owner in owners:
        demand_owner(web, owner)
    return best_gain(web.of_owners(owners))


def brings(web, owner):
    """By how much the greatest gain would be less without the askings of an owner."""
    demand_owner(web, owner)
    others = [other for other in web.owners() if other != owner]
    return best_gain(web) - best_gain(web.of_owners(others))
