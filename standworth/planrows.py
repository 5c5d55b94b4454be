"""The rows of worths that a best plan leads to, and what it means that a row fits."""

from standworth.errors import OtherStandings
from standworth.weblines import HOME
from standworth.webnets import mirror_net, plan_net
from standworth.worths import Worths


def greatest_of(plan):
    """The greatest row that fits a best plan: what a crew at a standing costs at least."""
    costs = plan_net(plan).costs_from(HOME)
    return Worths({standing: costs[standing] for standing in plan.web.standings()})


def least_of(plan):
    """The least row that fits a best plan: what a crew at a standing brings at most."""
    costs = mirror_net(plan).costs_from(HOME)
    return Worths({standing: -costs[standing] for standing in plan.web.standings()})


def row_by_habit(plan, habit):
    """The row of a habit that fits a best plan."""
    if habit == "least":
        return least_of(plan)
    if habit == "greatest":
        return greatest_of(plan)
    return least_of(plan).between(greatest_of(plan))


def demand_row(held, row):
    """Refuse any value that is no row over the standings of a web, or of ties."""
    if not isinstance(row, Worths) or row.standings() != held.standings():
        raise OtherStandings()


def breaks(amount, room, gap, fee):
    """Whether an amount of a line does not fit a gap beside a fee; both may be pairs."""
    if gap > fee:
        # No amount is the room of an endless line.
        return amount != room
    return gap < fee and amount != 0


def line_gap(row, sheet):
    """The gap of a line at a row."""
    return row.worth(sheet[2]) - row.worth(sheet[1])


def given_worth(web, row):
    """The sum of given crews times worth over all standings."""
    return sum([many * row.worth(standing) for standing, many in web.given()])


def most_dealt(sheets, row):
    """The sum of room times the part of gap minus fee above 0; None if some endless line has a gap above its fee."""
    total = 0
    for sheet in sheets:
        dealt = line_gap(row, sheet) - sheet[4]
        if dealt > 0:
            if sheet[3] is None:
                return None
            total += sheet[3] * dealt
    return total
