"""What crews more and crews less change, and best plans when askings come and go."""

from standworth.best import best_plan, demand_best
from standworth.errors import InvalidNumber, UnknownStanding
from standworth.plans import Plan
from standworth.weblines import HOME
from standworth.webnets import lead_given, line_of, plan_net
from standworth.words import is_number, is_standing

MOST_CREWS = 20


def demand_few(most):
    """Refuse any value that is no number of crews up to 20."""
    if not is_number(most, 0, MOST_CREWS):
        raise InvalidNumber(most)


def demand_standing(web, standing):
    """Refuse any value that is no standing of a web."""
    if not is_standing(standing) or not web.has_place(standing):
        raise UnknownStanding(standing)


def crew_costs(led):
    """The list of the cost of each crew of a list of pairs (number of crews, cost of each of them)."""
    return [cost for crews, cost in led for _ in range(crews)]


def one_more(web, standing, most=20):
    """For one crew after the other that is given at a standing, what it adds to the greatest gain."""
    demand_standing(web, standing)
    demand_few(most)
    for cost in crew_costs(plan_net(best_plan(web)).lead(standing, HOME, most)):
        yield -cost


def one_less(web, standing, most=20):
    """For one crew after the other that is called away at a standing, what it costs of the greatest gain."""
    demand_standing(web, standing)
    demand_few(most)
    yield from crew_costs(plan_net(best_plan(web)).lead(HOME, standing, most))


def gains_by_crews(web, name, most):
    """The list of the greatest gains if an asking has no crew, one crew, and so on."""
    asking = web.asking(name)
    demand_few(most)
    plan = best_plan(web.without(name))
    net = plan_net(plan)
    net.enter((asking.key, asking.start, asking.end, most, asking.fee), 0)
    gains = [plan.gain]
    for cost in crew_costs(net.fill(asking.key, 0)):
        gains.append(gains[-1] - cost)
    return gains + [gains[-1]] * (most + 1 - len(gains))


def plan_with(plan, web, asking):
    """A best plan of a web that a best plan of the web without one of its askings leads to."""
    net = plan_net(plan)
    net.enter(line_of(web.line_sheet(asking.key), asking.fee), 0)
    net.fill(asking.key, 0)
    return Plan(web, net.amounts())


def plan_without(plan, web, asking):
    """A best plan of a web that a best plan of the web with one more asking leads to."""
    net = plan_net(plan)
    net.drain(asking.key)
    return Plan(web, net.amounts())


def plan_with_given(plan, web, standing, many):
    """A best plan of a web with so many crews more given than in the web of a best plan."""
    net = plan_net(plan)
    lead_given(net, standing, many)
    return Plan(web, net.amounts())


def grown(plan, asking):
    """A best plan of the web of a best plan with one more asking, which differs little from it."""
    demand_best(plan)
    return plan_with(plan, plan.web.with_asking(asking), asking)


def shrunk(plan, name):
    """A best plan of the web of a best plan without an asking, which differs little from it."""
    demand_best(plan)
    return plan_without(plan, plan.web.without(name), plan.web.asking(name))
