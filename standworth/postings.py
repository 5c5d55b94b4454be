"""Postings: what the lines of a plan enter into books at a row of worths."""

from standworth.planrows import demand_row, line_gap
from standworth.weblines import HOME
from standworth.words import account_of


def begins_at(sheet):
    """The hour at which a line begins."""
    start, end = sheet[1:3]
    return end[1] if start == HOME else start[1]


def sheet_entries(sheet, amount, row):
    """The list of the pairs that the line of a sheet enters with an amount."""
    start, end, owner = sheet[1], sheet[2], sheet[5]
    entries = [(owner, amount * line_gap(row, sheet))]
    if start != HOME:
        entries.append((account_of(start), amount * row.worth(start)))
    if end != HOME:
        entries.append((account_of(end), -amount * row.worth(end)))
    return sorted(entries)


def posted(sheet, amount, row):
    """The tuple (key, done, entries) of the line of a sheet with an amount."""
    return (sheet[0], begins_at(sheet), tuple(sheet_entries(sheet, amount, row)))


def line_entries(plan, row, key):
    """The list of the pairs that a line enters."""
    demand_row(plan.web, row)
    return sheet_entries(plan.web.line_sheet(key), plan.amount(key), row)


def posting(plan, row):
    """The list of the tuples (key, done, entries) of all lines with an amount above 0, in the order of lines."""
    demand_row(plan.web, row)
    amounts = plan.amounts()
    return [posted(plan.web.line_sheet(key), amounts[key], row) for key in amounts]
