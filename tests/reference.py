"""Slow and plain ways to find what the package finds, by the words of the document, and certificates for large webs."""

import random
from itertools import product

from standworth.askings import Hire, Work
from standworth.lands import Land
from standworth.plans import Plan, step_places, steps_cost, turned
from standworth.webs import Web
from standworth.worths import Worths
from tests.samples import wide_land

HOME = ()


def free_plan(web):
    """A plan in which given crews are let free at once, and those that are called away are bought."""
    amounts = {}
    for standing, many in web.given():
        amounts[("free" if many > 0 else "buy", *standing)] = abs(many)
    return Plan(web, amounts)


def all_rings(plan):
    """All rings of a plan, each one once, found by trying all ways."""
    leading = {place: [] for place in plan.web.places()}
    for step in plan.rest_steps():
        start, end = step_places(plan.web, step)
        leading[start].append((step, end))
    rings = []

    def follow(first, place, steps, visited):
        for step, end in leading[place]:
            if end == first and step[0] not in [key for key, _ in steps]:
                rings.append([*steps, step])
            elif end > first and end not in visited:
                follow(first, end, [*steps, step], [*visited, end])

    for place in plan.web.places():
        follow(place, place, [], [place])
    return [ring for ring in rings if len(ring) > 1]


def slow_best_plan(web):
    """A best plan: rings with a gain above 0 are turned until there is none."""
    plan = free_plan(web)
    while True:
        gaining = [ring for ring in all_rings(plan) if steps_cost(web, ring) < 0]
        if not gaining:
            return plan
        plan = turned(plan, gaining[0])


def all_best_plans(web, most=400):
    """All best plans, which rings without gain lead to from one of them; None if there are more than so many."""
    found = [slow_best_plan(web)]
    for plan in found:
        for ring in all_rings(plan):
            if steps_cost(web, ring) == 0:
                other = turned(plan, ring)
                if not any(other.amounts() == each.amounts() for each in found):
                    found.append(other)
        if len(found) > most:
            return None
    return found


def fits_by_words(plan, row):
    """Whether a row fits a plan, line by line."""
    for key, start, end, room, fee, _ in plan.web.line_sheets():
        between = row.worth(end) - row.worth(start)
        if between > fee and (room is None or plan.amount(key) < room):
            return False
        if between < fee and plan.amount(key) > 0:
            return False
    return True


def all_rows(web):
    """All rows with worths from -1 to one above the top."""
    standings = web.standings()
    for worths in product(range(-1, web.land.top + 2), repeat=len(standings)):
        yield Worths(dict(zip(standings, worths)))


def fitting_rows(plan):
    """All rows that fit a plan."""
    return [row for row in all_rows(plan.web) if fits_by_words(plan, row)]


def is_fitting_row(web, row, plan):
    """Whether a row over the standings of a web fits a plan."""
    return isinstance(row, Worths) and row.standings() == web.standings() and fits_by_words(plan, row)


def least_cost(plan, start, end, without=None, costs=None):
    """The least cost of rest steps that lead from one place to another one, perhaps without a line."""
    web = plan.web
    arcs = []
    for step in plan.rest_steps():
        if step[0] != without:
            cost = steps_cost(web, [step]) if costs is None else costs[step[0]] * step[1]
            arcs.append((*step_places(web, step), cost))
    found, before = {start: 0}, None
    while found != before:
        before = dict(found)
        for one, other, cost in arcs:
            if one in found and (other not in found or found[one] + cost < found[other]):
                found[other] = found[one] + cost
    return found.get(end)


def has_ring_below_0(plan, costs):
    """Whether some ring has a cost below 0, where other costs stand in the place of the fees."""
    web = plan.web
    arcs = [(*step_places(web, step), costs[step[0]] * step[1]) for step in plan.rest_steps()]
    found = {place: 0 for place in web.places()}
    for _ in web.places():
        before = dict(found)
        for one, other, cost in arcs:
            found[other] = min(found[other], found[one] + cost)
        if found == before:
            return False
    return True


def some_asking(luck, land, at, crews=2, price=5):
    """An asking at random standings of a land; a work only where a later hour is left."""
    yards = [yard[0] for yard in land.yards()]
    name, owner = f"a{'abcdefghijklmnopqrstuvwxyz'[at]}", luck.choice(["ann", "bob", "cyd"])
    start = luck.randrange(land.last + 1)
    many, rank = luck.randrange(1, crews + 1), luck.randrange(3)
    if start == land.last or luck.random() < 0.4:
        cost = luck.randrange(min(land.top, price) + 1)
        return Hire(name, owner, (luck.choice(yards), start), many, cost, rank=rank)
    end = luck.randrange(start + 1, land.last + 1)
    places = (luck.choice(yards), start), (luck.choice(yards), end)
    return Work(name, owner, *places, many, luck.randrange(price + 1), rank=rank)


def tiny_land(luck, yards, last, top):
    names = ["quay", "hill", "mill"][:yards]
    told = [(name, luck.randrange(3), luck.choice([None, 1, 2])) for name in names]
    roads = [
        (one, other, luck.randrange(1, 3), luck.randrange(3))
        for one in names for other in names if one != other and luck.random() < 0.6
    ]
    return Land(last, top, told, roads=roads)


def tiny_web(seed, yards=2, last=2, top=4, askings=4):
    """A web that is small enough to try everything."""
    luck = random.Random(seed)
    land = tiny_land(luck, luck.randrange(1, yards + 1), luck.randrange(last + 1), luck.randrange(1, top + 1))
    asked = [some_asking(luck, land, at) for at in range(luck.randrange(askings + 1))]
    given = [(standing, luck.randrange(-2, 3)) for standing in land.standings() if luck.random() < 0.4]
    since = luck.randrange(land.last + 2) if luck.random() < 0.3 else 0
    return Web(land, asked, given=given, since=since)


def tiny_webs(many, **sizes):
    """Some tiny webs, and for each of them all its best plans; webs with very many of them are left out."""
    for seed in range(many):
        web = tiny_web(seed, **sizes)
        plans = all_best_plans(web)
        if plans is not None:
            yield web, plans


def large_web(seed, askings=24, price=999):
    """A web with six yards, eight roads, the last hour 8 and many askings."""
    luck = random.Random(seed)
    land = wide_land()
    asked = [some_asking(luck, land, at, crews=99 if seed % 2 else 5, price=price) for at in range(askings)]
    given = [(standing, luck.randrange(-9, 10)) for standing in land.standings() if luck.random() < 0.2]
    return Web(land, asked, given=given)


def large_webs():
    """Some large webs, also since later hours."""
    for seed in range(4):
        web = large_web(seed)
        yield web
        yield Web(web.land, web.askings(), given=web.given(), since=3 + seed)
