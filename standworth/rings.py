"""Rings with a cost below 0, among arcs that lead from place to place."""


def ring_below(places, arcs):
    """The list of the marks of some arcs that make a ring with a cost below 0, or None if there is no such ring.

    An arc is a tuple (mark, start, end, cost). The ring visits no place twice.
    """
    costs = {place: 0 for place in places}
    reached = {}
    changed = None
    # Without such a ring nothing changes any more once there were as many rounds as places, and mostly far earlier.
    for _ in places:
        changed = None
        for mark, start, end, cost in arcs:
            if costs[start] + cost < costs[end]:
                costs[end] = costs[start] + cost
                reached[end] = (start, mark)
                changed = end
        if changed is None:
            return None
    return ring_behind(reached, changed)


def ring_behind(reached, place):
    """The ring to which it leads back to go from a place to the one from which it was reached, again and again."""
    for _ in range(len(reached)):
        place = reached[place][0]
    ring = []
    at = place
    while len(ring) == 0 or at != place:
        at, mark = reached[at]
        ring.append(mark)
    return list(reversed(ring))
