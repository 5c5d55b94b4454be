"""Plans: an amount of crews for each line; steps, ways and rings over them."""

from standworth.errors import InvalidAmounts, InvalidNumber, InvalidSteps, OverRoom, Unbalanced, UnknownLine
from standworth.weblines import HOME
from standworth.words import is_number, is_whole, number_text


def check_amounts(web, amounts):
    """Refuse any value that is no dict of keys of lines of the web to amounts."""
    if not isinstance(amounts, dict):
        raise InvalidAmounts()
    for key in amounts:
        if not web.has_line(key) or not is_whole(amounts[key]) or amounts[key] < 0:
            raise InvalidAmounts()


def has_room(sheet, amount):
    """Whether an amount is not above the room of a line."""
    room = sheet[3]
    return room is None or amount <= room


def check_rooms(web, amounts):
    """Refuse amounts of lines of the web that are above their rooms."""
    for sheet in web.line_sheets():
        if not has_room(sheet, amounts.get(sheet[0], 0)):
            raise OverRoom(sheet[0])


def check_balance(web, amounts):
    """Refuse amounts with which crews appear or vanish at a standing."""
    crews = {place: web.given_at(place) for place in web.places()}
    for sheet in web.line_sheets():
        key, start, end = sheet[:3]
        crews[start] -= amounts.get(key, 0)
        crews[end] += amounts.get(key, 0)
    for standing in web.standings():
        if crews[standing] != 0:
            raise Unbalanced(standing)


class Plan:
    """A plan of a web; it never changes."""

    def __init__(self, web, amounts):
        check_amounts(web, amounts)
        check_rooms(web, amounts)
        check_balance(web, amounts)
        self.web = web
        self._amounts = {key: amounts[key] for key in sorted(list(amounts)) if amounts[key] > 0}
        self._gain = -sum([web.line_sheet(key)[4] * self._amounts[key] for key in self._amounts])
        self._begun = sum([self._amounts.get(key, 0) for key in web.lines_from(HOME)])

    @property
    def gain(self):
        """Minus the sum of fee times amount over all lines."""
        return self._gain

    @property
    def begun(self):
        """The sum of the amounts of the lines that start at home."""
        return self._begun

    def amounts(self):
        """A dict of the lines with an amount above 0 to their amounts."""
        return {key: self._amounts[key] for key in self._amounts}

    def amount(self, key):
        """The amount of a line."""
        if not self.web.has_line(key):
            raise UnknownLine(key)
        return self._amounts.get(key, 0)

    def rest_steps(self):
        """The ascending list of its rest steps."""
        steps = []
        for sheet in self.web.line_sheets():
            key = sheet[0]
            amount = self._amounts.get(key, 0)
            if amount > 0:
                steps.append((key, -1))
            if has_room(sheet, amount + 1):
                steps.append((key, 1))
        return steps

    def __eq__(self, other):
        return isinstance(other, Plan) and self.web == other.web and self._amounts == other._amounts

    def __len__(self):
        return len(self._amounts)

    def __bool__(self):
        return True

    def __repr__(self):
        return f"Plan(gain {number_text(self._gain)})"


def is_step(web, value):
    """Whether any value is a step of a line of the web."""
    if not isinstance(value, tuple) or len(value) != 2:
        return False
    key, sign = value
    return web.has_line(key) and is_number(sign, -1, 1) and sign != 0


def is_rest_step(plan, value):
    """Whether any value is a rest step of a plan."""
    if not is_step(plan.web, value):
        return False
    key, sign = value
    amount = plan.amount(key)
    return amount > 0 if sign == -1 else has_room(plan.web.line_sheet(key), amount + 1)


def are_rest_steps(plan, values):
    """Whether any value is a list or tuple of rest steps of a plan."""
    return isinstance(values, (list, tuple)) and all([is_rest_step(plan, value) for value in values])


def step_places(web, step):
    """The pair of the places from which and to which a step leads."""
    key, sign = step
    _, start, end = web.line_sheet(key)[:3]
    return (start, end) if sign == 1 else (end, start)


def steps_cost(web, steps):
    """The sum of the costs of a list of steps."""
    if not isinstance(steps, (list, tuple)) or not all([is_step(web, step) for step in steps]):
        raise InvalidSteps()
    return sum([web.line_sheet(key)[4] * sign for key, sign in steps])


def is_way(plan, steps, start, end):
    """Whether any value is a list or tuple of steps that is a way from one place of the web to another."""
    if not are_rest_steps(plan, steps) or not plan.web.has_place(start) or not plan.web.has_place(end):
        return False
    visited = [start]
    for step in steps:
        before, behind = step_places(plan.web, step)
        if before != visited[-1]:
            return False
        visited.append(behind)
    return visited[-1] == end and len(set(visited)) == len(visited)


def is_ring(plan, steps):
    """Whether any value is a list or tuple of steps that is a ring."""
    if not are_rest_steps(plan, steps) or len(steps) < 2:
        return False
    pairs = [step_places(plan.web, step) for step in steps]
    # Behind the first step counts as what is ahead of it, so the index -1 closes the ring.
    if not all([pairs[at - 1][1] == pairs[at][0] for at in range(len(pairs))]):
        return False
    lines = len({key for key, _ in steps})
    return len({before for before, _ in pairs}) == len(pairs) and lines == len(steps)


def turned(plan, ring, many=1):
    """The plan with a ring turned so many times."""
    if not is_ring(plan, ring):
        raise InvalidSteps()
    if not is_number(many, 1, 99):
        raise InvalidNumber(many)
    amounts = plan.amounts()
    for key, sign in ring:
        amounts[key] = plan.amount(key) + sign * many
    for key in sorted([key for key, _ in ring]):
        if amounts[key] < 0 or not has_room(plan.web.line_sheet(key), amounts[key]):
            raise OverRoom(key)
    return Plan(plan.web, amounts)
