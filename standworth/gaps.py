"""Gaps between places over all rows that fit the best plans of a web, and the ways that bound them."""

from standworth.best import best_plan, demand_best
from standworth.errors import InvalidNumber, NotReached, UnknownStanding
from standworth.weblines import HOME
from standworth.webnets import plan_net
from standworth.words import is_whole
from standworth.worths import Worths


def gap(row, one, other):
    """The gap from one place to another one at a row."""
    ahead = row.worth(one)
    return row.worth(other) - ahead


def demand_places(web, one, other):
    """Refuse values that are no places of a web."""
    for place in (one, other):
        if not web.has_place(place):
            raise UnknownStanding(place)


def way_costs(web, one, other):
    """The pair of the dicts of all places to the least costs of ways from one place, and from another one."""
    demand_places(web, one, other)
    net = plan_net(best_plan(web))
    return (net.costs_from(one), net.costs_from(other))


def gap_range(web, one, other):
    """The pair of the least and the greatest gap from one place to another one over all fitting rows."""
    from_one, from_other = way_costs(web, one, other)
    return (-from_other[one], from_one[other])


def row_with_gap(web, one, other, wanted):
    """A fitting row at which the gap from one place to another one is the wanted number."""
    from_one, from_other = way_costs(web, one, other)
    if not is_whole(wanted):
        raise InvalidNumber(wanted)
    least, greatest = -from_other[one], from_one[other]
    if not least <= wanted <= greatest:
        raise NotReached(least, greatest)
    # What ways cost from a place fits, and so do the lesser ones of two such costs, whatever is added to one of them.
    costs = {place: min(from_one[place], wanted + from_other[place]) for place in web.places()}
    return Worths({standing: costs[standing] - costs[HOME] for standing in web.standings()})


def least_way(plan, start, end):
    """The pair of the cost and the steps of a way of the least cost from one place to another one."""
    demand_best(plan)
    demand_places(plan.web, start, end)
    return plan_net(plan).way(start, end)
