"""The settled plan: the one of the best plans that serves the askings in the order of ranks."""

from standworth.plans import Plan
from standworth.webnets import best_amounts, fees_of


def settled_costs(web):
    """Costs of the lines of a web that count the fees first, and then the wishes of the settled plan, in order.

    A ring takes each line once at most. So each wish weighs more than all the wishes behind it together, and a fee of
    1 more than all wishes.
    """
    fees = fees_of(web)
    asked = [asking.key for asking in web.askings()]
    costs = {}
    weight = 1
    for key in reversed([key for key in web.line_keys() if key not in asked]):
        costs[key] = weight
        weight = weight * 2
    for key in reversed(asked):
        costs[key] = -weight
        weight = weight * 2
    return {key: costs[key] + fees[key] * weight for key in costs}


def settled_plan(web):
    """The settled plan of a web."""
    return Plan(web, best_amounts(web, settled_costs(web)))
