"""A second wish: of the best plans those in which second fees add up to the least sum."""

from standworth.errors import InvalidSeconds, InvalidWorths
from standworth.planrows import breaks
from standworth.plans import Plan
from standworth.weblines import HOME
from standworth.webnets import best_amounts, fees_of, web_net
from standworth.words import is_number, is_standing, is_whole

MOST_SECOND = 99
# A fee of 1 counts more than the second fees of all lines of a way or a ring together, be they for or against it.
WEIGHT = 1000000


def demand_seconds(web, seconds):
    """Refuse any value that is no dict of lines of a web to second fees."""
    if not isinstance(seconds, dict):
        raise InvalidSeconds()
    if not all([web.has_line(key) and is_number(seconds[key], 0, MOST_SECOND) for key in seconds]):
        raise InvalidSeconds()


def paired_costs(web, seconds):
    """A dict of the lines of a web to numbers that stand for the pairs (fee, second fee)."""
    fees = fees_of(web)
    return {key: fees[key] * WEIGHT + seconds.get(key, 0) for key in fees}


def pair_in(cost):
    """The pair for which a number stands."""
    first = (cost + WEIGHT // 2) // WEIGHT
    return (first, cost - first * WEIGHT)


def second_sum(plan, seconds):
    """The sum of second fee times amount."""
    demand_seconds(plan.web, seconds)
    return sum([seconds[key] * plan.amount(key) for key in seconds])


def second_plan(web, seconds):
    """A best plan whose second sum is the least one of all best plans."""
    demand_seconds(web, seconds)
    return Plan(web, best_amounts(web, paired_costs(web, seconds)))


def pair_row(web, seconds):
    """A dict of the standings of a web to pairs, a row of pairs that fits the second plans."""
    amounts = second_plan(web, seconds).amounts()
    costs = web_net(web, paired_costs(web, seconds), amounts).costs_from(HOME)
    return {standing: pair_in(costs[standing]) for standing in web.standings()}


def is_pair(value):
    """Whether any value is a pair of numbers."""
    return isinstance(value, tuple) and len(value) == 2 and is_whole(value[0]) and is_whole(value[1])


def demand_pairs(web, pairs):
    """Refuse any value that is no dict of all standings of a web to pairs of numbers."""
    if not isinstance(pairs, dict) or not all([is_standing(key) and is_pair(pairs[key]) for key in pairs]):
        raise InvalidWorths()
    if sorted(list(pairs)) != web.standings():
        raise InvalidWorths()


def pair_misfit(plan, seconds, pairs):
    """The key of the first line at which a row of pairs does not fit a plan, or None."""
    demand_seconds(plan.web, seconds)
    demand_pairs(plan.web, pairs)
    for key, start, end, room, fee, _ in plan.web.line_sheets():
        ahead, behind = pairs.get(start, (0, 0)), pairs.get(end, (0, 0))
        between = (behind[0] - ahead[0], behind[1] - ahead[1])
        if breaks(plan.amount(key), room, between, (fee, seconds.get(key, 0))):
            return key
    return None


def fewest_crews(web):
    """The least number of crews that begin at home in best plans."""
    return second_plan(web, {key: 1 for key in web.lines_from(HOME)}).begun
