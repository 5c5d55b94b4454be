"""Nets: places and lines between them, over which crews are led at the least cost."""


class Net:
    """Places, and lines between them with amounts of crews, on which crews are led from place to place.

    The lines that are entered, with their amounts, must leave no ring over which crews could go at a cost below 0.
    Then there never is one, since crews are only led on ways with the least cost.

    Places and steps have numbers. The line with the index n is taken from its start to its end by the step 2 * n, and
    from its end to its start by the step 2 * n + 1. `_steps` has for each place the tuples (step, place to which it
    leads, cost), and `_left` for each step the number of crews that it can still lead, or None for no bound.
    """

    def __init__(self, places):
        self._places = list(places)
        self._index = {place: at for at, place in enumerate(self._places)}
        self._lines = []
        self._first_steps = {}
        self._left = []
        self._steps = [[] for _ in self._places]
        # A step counts as little as it can beside the costs, so that a shortest one of the least ways is found.
        self._scale = len(self._places) + 1

    def enter(self, line, amount):
        """Enter a line, a tuple (key, start, end, room, cost), with an amount of crews."""
        key, start, end, room, cost = line
        step = len(self._left)
        one, other = self._index[start], self._index[end]
        self._lines.append(line)
        self._first_steps[key] = step
        self._left.extend([None if room is None else room - amount, amount])
        self._steps[one].append((step, other, cost * self._scale + 1))
        self._steps[other].append((step + 1, one, 1 - cost * self._scale))

    def amounts(self):
        """A dict of the lines with an amount above 0 to their amounts."""
        amounts = {line[0]: self._left[2 * at + 1] for at, line in enumerate(self._lines)}
        return {key: amount for key, amount in amounts.items() if amount > 0}

    def costs_from(self, start):
        """A dict of the places that can be reached from a place to the costs of the least ways to them."""
        costs, _ = self._searched(self._index[start])
        pairs = [(place, costs[at]) for at, place in enumerate(self._places)]
        return {place: cost // self._scale for place, cost in pairs if cost is not None}

    def way(self, start, end):
        """The pair of the cost and the list of the steps (key, sign) of a least way; there must be a way."""
        cost, steps = self._found_way(start, end)
        return (cost, [(self._lines[step // 2][0], 1 if step & 1 == 0 else -1) for step in steps])

    def lead(self, start, end, most, below=None):
        """Lead at most so many crews from a place to another one, each on a way that costs less than below.

        None stands for no bound. It returns the list of the pairs (number of crews, cost of each of them).
        """
        told, rest = [], most
        while rest is None or rest > 0:
            found = self._found_way(start, end)
            if found is None or (below is not None and found[0] >= below):
                break
            cost, steps = found
            bounds = [rest, *[self._left[step] for step in steps]]
            crews = min([bound for bound in bounds if bound is not None])
            for step in steps:
                self._take(step, crews)
            rest = None if rest is None else rest - crews
            told.append((crews, cost))
        return told

    def fill(self, key, below):
        """Lead crews over a line and back to its start on other lines, each as long as this costs less than below.

        It returns the list of the pairs (number of crews, cost of each of them).
        """
        step = self._first_steps[key]
        _, start, end, _, cost = self._lines[step // 2]
        led = self._lead_beside(step, (end, start), below - cost)
        return [(crews, back + cost) for crews, back in led]

    def drain(self, key, below=None):
        """Lead crews of a line over other lines instead, each as long as this costs less than below, or all."""
        step = self._first_steps[key]
        _, start, end, _, cost = self._lines[step // 2]
        self._lead_beside(step + 1, (start, end), None if below is None else below + cost)

    def _lead_beside(self, step, ends, below):
        """Take a step with crews that are led between two places over all lines but the one of the step."""
        steps, barred = self._steps, (step, step ^ 1)
        self._steps = [[each for each in at_place if each[0] not in barred] for at_place in steps]
        led = self.lead(ends[0], ends[1], self._left[step], below)
        self._steps = steps
        self._take(step, sum([crews for crews, _ in led]))
        return led

    def _take(self, step, crews):
        for side, change in ((step, -crews), (step ^ 1, crews)):
            if self._left[side] is not None:
                self._left[side] += change

    def _found_way(self, start, end):
        """The pair of the cost and the numbers of the steps of a least way, or None."""
        costs, reached = self._searched(self._index[start])
        at = self._index[end]
        if costs[at] is None:
            return None
        cost, steps = costs[at] // self._scale, []
        while at != self._index[start]:
            at, step = reached[at]
            steps.append(step)
        return (cost, list(reversed(steps)))

    def _searched(self, start):
        """For each place the scaled cost of the least way to it, and the last place and the last step on this way."""
        costs = [None for _ in self._places]
        reached = [None for _ in self._places]
        waiting = [False for _ in self._places]
        costs[start] = 0
        queue, at = [start], 0
        while at < len(queue):
            place = queue[at]
            ahead = costs[place]
            waiting[place] = False
            at += 1
            for step, other, cost in self._steps[place]:
                known = costs[other]
                if (known is None or ahead + cost < known) and self._left[step] != 0:
                    costs[other] = ahead + cost
                    reached[other] = (place, step)
                    if not waiting[other]:
                        waiting[other] = True
                        queue.append(other)
        return (costs, reached)
