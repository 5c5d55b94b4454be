"""The nets of webs and plans, and the amounts of best plans, for the fees of the lines or for other costs."""

from standworth.nets import Net
from standworth.weblines import HOME


def fees_of(web):
    """A dict of the lines of a web to their fees."""
    return {sheet[0]: sheet[4] for sheet in web.line_sheets()}


def line_of(sheet, cost):
    """The line of a net that a sheet tells, with a cost in the place of the fee."""
    key, start, end, room = sheet[:4]
    return (key, start, end, room, cost)


def web_net(web, costs, amounts):
    """The net of a web with the amounts of a plan that has no ring with a cost below 0."""
    net = Net(web.places())
    for sheet in web.line_sheets():
        net.enter(line_of(sheet, costs[sheet[0]]), amounts.get(sheet[0], 0))
    return net


def plan_net(plan):
    """The net of a best plan."""
    return web_net(plan.web, fees_of(plan.web), plan.amounts())


def mirror_net(plan):
    """The net of a best plan in which each line leads from its end to its start."""
    net = Net(plan.web.places())
    for key, start, end, room, fee, _ in plan.web.line_sheets():
        net.enter((key, end, start, room, fee), plan.amount(key))
    return net


def lead_given(net, standing, many):
    """Lead so many more given crews from a standing on, or call them away there if many is below 0."""
    if many < 0:
        net.lead(HOME, standing, -many)
    else:
        net.lead(standing, HOME, many)


def best_amounts(web, costs):
    """The amounts of a plan of a web with the least cost; without askings no ring may have a cost below 0."""
    net = Net(web.places())
    askings = web.askings()
    asked = {asking.key: True for asking in askings}
    for sheet in web.line_sheets():
        if sheet[0] not in asked:
            net.enter(line_of(sheet, costs[sheet[0]]), 0)
    for standing, many in web.given():
        lead_given(net, standing, many)
    for asking in askings:
        net.enter(line_of(web.line_sheet(asking.key), costs[asking.key]), 0)
        net.fill(asking.key, 0)
    return net.amounts()
