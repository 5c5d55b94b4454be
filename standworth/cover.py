"""What owed crews may be worth at most, at all rows that keep some ties, and the flows that show it."""

from standworth.errors import InvalidFlow, InvalidNumber, InvalidOwed, NotFlow
from standworth.ties import demand_kept, tie_net
from standworth.weblines import HOME
from standworth.webnets import lead_given
from standworth.words import is_place, is_standing, is_whole
from standworth.worths import Worths


def demand_owed(standings, owed):
    """Refuse any value that is no dict of some standings to numbers."""
    if not isinstance(owed, dict):
        raise InvalidOwed()
    for standing in owed:
        if not is_standing(standing) or standing not in standings or not is_whole(owed[standing]):
            raise InvalidOwed()


def least_net(ties, owed):
    """The net of ties with the amounts of a flow whose bound is the least one."""
    demand_owed(ties.standings(), owed)
    demand_kept(ties)
    net = tie_net(ties.standings(), ties.ties())
    # Crews that are owed at a standing are led there as if they were called away.
    for standing in sorted(list(owed)):
        lead_given(net, standing, -owed[standing])
    return net


def mosts_of(ties):
    """A dict of the pairs (start, end) of the ties that count to their most."""
    return {(start, end): most for start, end, most in ties.ties()}


def bound_of(ties, flow):
    """The sum of most times amount over a flow."""
    mosts = mosts_of(ties)
    return sum([mosts[pair] * flow[pair] for pair in flow])


def row_in(ties, net):
    """The row that no flow can better, in the net of a flow with the least bound."""
    costs = net.costs_from(HOME)
    return Worths({standing: costs[standing] for standing in ties.standings()})


def loss(owed, row):
    """The sum of owed crews times worth."""
    demand_owed(row.standings(), owed)
    return sum([owed[standing] * row.worth(standing) for standing in owed])


def cover(ties, owed):
    """The greatest loss of owed crews at any row that keeps the ties."""
    return bound_of(ties, cover_flow(ties, owed))


def worst_row(ties, owed):
    """A row that keeps the ties with the greatest loss."""
    return row_in(ties, least_net(ties, owed))


def cover_flow(ties, owed):
    """A flow whose bound is the cover: a dict of pairs (start, end) to amounts above 0."""
    return least_net(ties, owed).amounts()


def is_pair_in(mosts, value):
    """Whether any value is the pair (start, end) of a tie that counts."""
    if not isinstance(value, tuple) or len(value) != 2:
        return False
    return is_place(value[0]) and is_place(value[1]) and value in mosts


def demand_flow(mosts, flow):
    """Refuse any value that is no dict of pairs of ties that count to amounts."""
    if not isinstance(flow, dict):
        raise InvalidFlow()
    for pair in flow:
        if not is_pair_in(mosts, pair) or not is_whole(flow[pair]) or flow[pair] < 0:
            raise InvalidFlow()


def flow_bound(ties, owed, flow):
    """The bound of a flow for owed crews."""
    demand_owed(ties.standings(), owed)
    demand_flow(mosts_of(ties), flow)
    crews = {place: 0 for place in [HOME, *ties.standings()]}
    for start, end in flow:
        crews[start] -= flow[(start, end)]
        crews[end] += flow[(start, end)]
    for standing in ties.standings():
        if crews[standing] != owed.get(standing, 0):
            raise NotFlow(standing)
    return bound_of(ties, flow)


def safe(ties, owed, money):
    """The pair of the word safe and a flow with a bound of at most the money, or of short and a row that loses more."""
    demand_owed(ties.standings(), owed)
    if not is_whole(money) or money < 0:
        raise InvalidNumber(money)
    net = least_net(ties, owed)
    flow = net.amounts()
    if bound_of(ties, flow) <= money:
        return ("safe", flow)
    return ("short", row_in(ties, net))
