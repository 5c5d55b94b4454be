"""Best plans, and the rings over which plans that are not best can gain."""

from standworth.errors import NotBest
from standworth.planrows import greatest_of
from standworth.plans import Plan, step_places, steps_cost
from standworth.rings import ring_below
from standworth.webnets import best_amounts, fees_of


def best_plan(web):
    """A best plan of a web."""
    return Plan(web, best_amounts(web, fees_of(web)))


def best_gain(web):
    """The greatest gain of the plans of a web."""
    return best_plan(web).gain


def is_best(plan):
    """Whether a plan is a best plan of its web."""
    return better_ring(plan) is None


def better_ring(plan):
    """A ring of a plan with a gain above 0, or None if the plan is best."""
    web = plan.web
    arcs = [(step, *step_places(web, step), steps_cost(web, [step])) for step in plan.rest_steps()]
    return ring_below(web.places(), arcs)


def demand_best(plan):
    """Refuse a plan that is not best."""
    ring = better_ring(plan)
    if ring is not None:
        raise NotBest(ring)


def judge(plan):
    """The pair of the word best and a row that fits, or of the word worse and a ring with a gain above 0."""
    ring = better_ring(plan)
    if ring is not None:
        return ("worse", ring)
    return ("best", greatest_of(plan))
