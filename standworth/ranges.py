"""What the amount of a line is over all best plans of a web, and what shows it."""

from standworth.best import best_plan
from standworth.gaps import gap_range, row_with_gap
from standworth.plans import Plan
from standworth.webnets import plan_net


def amount_range(web, key):
    """The pair of the least and the greatest amount that a line has in best plans."""
    least, greatest = range_plans(web, key)
    return (least.amount(key), greatest.amount(key))


def range_plans(web, key):
    """A pair of best plans in which a line has its least and its greatest amount."""
    web.line_sheet(key)
    plan = best_plan(web)
    # In a best plan such crews cost at least 0; those that cost less than 1 lead to other best plans.
    lesser, greater = plan_net(plan), plan_net(plan)
    lesser.drain(key, 1)
    greater.fill(key, 1)
    return (Plan(web, lesser.amounts()), Plan(web, greater.amounts()))


def fate(web, key):
    """The word for the amounts of a line in best plans: full, empty, steady or open."""
    room = web.line_sheet(key)[3]
    least, greatest = amount_range(web, key)
    if least == room:
        return "full"
    if greatest == 0:
        return "empty"
    return "steady" if least == greatest else "open"


def fate_witness(web, key):
    """The pair of the fate of a line and what shows it: a fitting row, None, or two best plans."""
    word = fate(web, key)
    start, end = web.line_sheet(key)[1:3]
    if word == "full":
        return (word, row_with_gap(web, start, end, gap_range(web, start, end)[1]))
    if word == "empty":
        return (word, row_with_gap(web, start, end, gap_range(web, start, end)[0]))
    return (word, range_plans(web, key) if word == "open" else None)
