import random
import unittest

from standworth.askings import Hire, Work
from standworth.errors import InvalidAmounts, InvalidNumber, InvalidSteps, OverRoom, Unbalanced, UnknownLine
from standworth.lands import Land
from standworth.plans import Plan, is_ring, is_way, steps_cost, turned
from standworth.webs import Web
from tests.samples import (
    Raising, is_one_of, odd_values, random_plan, small_askings, small_land, small_web, wide_land, wide_web,
)

# A crew is given at the hill and one is called away at the quay (see small_web).
SMALL = {
    ("hire", "men"): 2, ("work", "dig"): 2, ("free", "quay", 2): 3, ("wait", "hill", 0): 1, ("work", "mow"): 1,
    ("buy", "quay", 1): 1,
}


def step_ends(web, step):
    sheet = web.line_sheet(step[0])
    return (sheet[1], sheet[2]) if step[1] == 1 else (sheet[2], sheet[1])


def random_walk(plan, luck, start, most):
    """Some steps that follow one another, mostly over rest steps and mostly to new places."""
    rest = plan.rest_steps()
    place, steps, visited = start, [], [start]
    for _ in range(most):
        choices = [step for step in rest if step_ends(plan.web, step)[0] == place]
        if not choices:
            break
        fresh = [step for step in choices if step_ends(plan.web, step)[1] not in visited]
        back = [step for step in choices if step_ends(plan.web, step)[1] == start]
        if back and steps and luck.random() < 0.3:
            choices = back
        elif fresh and luck.random() < 0.95:
            choices = fresh
        steps.append(luck.choice(choices))
        place = step_ends(plan.web, steps[-1])[1]
        visited.append(place)
        if place == start:
            break
    return steps, visited


class PlanTest(Raising):
    def test_a_small_plan(self):
        web = small_web()
        plan = Plan(web, SMALL)
        self.assertTrue(plan.web == web)
        self.assertEqual(plan.gain, -(2 * 3 - 2 * 6 + 0 + 0 - 9 + 10))
        self.assertEqual(plan.begun, 3)
        self.assertEqual(plan.amount(("work", "dig")), 2)
        self.assertEqual(plan.amount(key=("free", "hill", 0)), 0)
        self.assertEqual(len(plan), 6)
        self.assertEqual(repr(plan), f"Plan(gain {plan.gain})")
        told = plan.amounts()
        self.assertEqual(told, SMALL)
        self.assertEqual(list(told), sorted(SMALL))

    def test_the_example(self):
        land = Land(1, 10, [("quay", 0, None)])
        web = Web(land, [Work("dig", "ann", ("quay", 0), ("quay", 1), 1, 6), Hire("men", "bob", ("quay", 0), 1, 3)])
        plan = Plan(web, {("free", "quay", 1): 1, ("hire", "men"): 1, ("work", "dig"): 1, ("wait", "quay", 0): 0})
        self.assertEqual((plan.gain, plan.begun, len(plan), repr(plan)), (3, 1, 3, "Plan(gain 3)"))
        self.assertEqual(plan.rest_steps(), [
            (("buy", "quay", 0), 1), (("buy", "quay", 1), 1), (("free", "quay", 0), 1), (("free", "quay", 1), -1),
            (("free", "quay", 1), 1), (("hire", "men"), -1), (("wait", "quay", 0), 1), (("work", "dig"), -1),
        ])

    def test_empty_plans(self):
        for land in (small_land(), wide_land()):
            plan = Plan(Web(land), {})
            self.assertEqual((plan.gain, plan.begun, plan.amounts(), len(plan)), (0, 0, {}, 0))
            self.assertEqual(repr(plan), "Plan(gain 0)")
            self.assertIs(bool(plan), True)
        plan = Plan(Web(small_land(), since=3), {})
        self.assertEqual((plan.rest_steps(), plan.gain, plan.begun), ([], 0, 0))

    def test_a_plan_may_lose(self):
        plan = Plan(Web(small_land()), {("buy", "quay", 0): 4, ("wait", "quay", 0): 4, ("free", "quay", 1): 4})
        self.assertEqual((plan.gain, plan.begun, repr(plan)), (-44, 4, "Plan(gain -44)"))

    def test_amounts_of_any_size(self):
        web = Web(small_land())
        for many in (10 ** 17, 10 ** 18, 10 ** 9000):
            plan = Plan(web, {("buy", "quay", 0): many, ("free", "quay", 0): many})
            self.assertTrue(plan.gain == -10 * many and plan.begun == many and plan.amount(("buy", "quay", 0)) == many)
            self.assertEqual(repr(plan), "Plan(gain -1" + "0" * (len(repr(plan)) - 13) + ")")
        self.assertEqual(len(repr(plan)), 9014)

    def test_wrong_amounts(self):
        web = small_web()
        for value in odd_values():
            if value != {}:
                self.raises(InvalidAmounts, [], lambda: Plan(web, value))
            if is_hashable(value):
                # The odd key stands first, as a dict keeps the first one of equal keys.
                self.raises(InvalidAmounts, [], lambda: Plan(web, {value: 0, **SMALL}))
        for value in [-1, True, False, None, "1", [1], (1,), {}, web]:
            self.raises(InvalidAmounts, [], lambda: Plan(web, {**SMALL, ("work", "dig"): value}))
            self.raises(InvalidAmounts, [], lambda: Plan(web, {("work", "dig"): 99, ("free", "hill", 0): value}))
        for key in [("buy", "quay", 3), ("buy", "quay", True), ("walk", "hill", "quay", 0), ("hire", "dig")]:
            self.raises(InvalidAmounts, [], lambda: Plan(web, {key: 0}))
        self.raises(InvalidAmounts, [], lambda: Plan(Web(small_land(), small_askings(), since=1), {("hire", "men"): 0}))

    def test_rooms(self):
        web = small_web()
        full = {**SMALL, ("work", "dig"): 3, ("buy", "quay", 0): 1, ("free", "quay", 2): 4}
        self.assertEqual(Plan(web, full).amount(("work", "dig")), 3)
        self.raises(OverRoom, [("work", "dig")], lambda: Plan(web, {("work", "dig"): 4}))
        self.raises(OverRoom, [("wait", "quay", 0)], lambda: Plan(web, {("work", "mow"): 2, ("wait", "quay", 0): 5}))
        self.raises(OverRoom, [("hire", "men")], lambda: Plan(web, {("wait", "quay", 0): 5, ("hire", "men"): 3}))
        endless = {("buy", "hill", 0): 10 ** 8 - 1, ("free", "hill", 0): 10 ** 8}
        self.raises(Unbalanced, [("quay", 1)], lambda: Plan(web, endless))
        self.assertEqual(Plan(web, {**endless, ("buy", "quay", 1): 1}).begun, 10 ** 8)

    def test_balance(self):
        web = small_web()
        self.raises(Unbalanced, [("hill", 0)], lambda: Plan(web, {}))
        self.raises(Unbalanced, [("quay", 1)], lambda: Plan(web, {("free", "hill", 0): 1}))
        self.assertEqual(Plan(web, {("free", "hill", 0): 1, ("buy", "quay", 1): 1}).gain, -10)
        self.raises(Unbalanced, [("hill", 1)], lambda: Plan(web, {**SMALL, ("work", "mow"): 0}))
        self.raises(Unbalanced, [("quay", 0)], lambda: Plan(web, {**SMALL, ("hire", "men"): 1, ("free", "quay", 2): 9}))
        self.raises(Unbalanced, [("quay", 2)], lambda: Plan(web, {**SMALL, ("free", "quay", 2): 4}))

    def test_the_first_error_counts(self):
        web = small_web()
        self.raises(InvalidAmounts, [], lambda: Plan(web, {("hire", "men"): 3, ("work", "dig"): 4, ("work", "far"): 0}))
        self.raises(OverRoom, [("hire", "men")], lambda: Plan(web, {("work", "dig"): 4, ("hire", "men"): 3}))

    def test_amounts_are_copied_and_new(self):
        told = dict(SMALL)
        told[("free", "hill", 0)] = 0
        kept = dict(told)
        plan = Plan(small_web(), told)
        self.assertEqual(told, kept)
        told.clear()
        plan.amounts().clear()
        plan.rest_steps().clear()
        self.assertEqual(plan.amounts(), SMALL)
        self.assertNotEqual(plan.rest_steps(), [])

    def test_amount_of_other_values(self):
        plan = Plan(small_web(), SMALL)
        for value in odd_values() + [("buy", "quay", True), ("buy", "quay", 3), ["work", "dig"]]:
            with self.assertRaises(UnknownLine) as caught:
                plan.amount(value)
            self.assertTrue(is_one_of(caught.exception.key, [value]), repr(value))

    def test_rest_steps(self):
        for web in (small_web(), wide_web(), wide_web(since=4)):
            for seed in range(3):
                plan = random_plan(web, seed)
                steps = []
                for key, _, _, room, _, _ in web.line_sheets():
                    if plan.amount(key) > 0:
                        steps.append((key, -1))
                    if room is None or plan.amount(key) < room:
                        steps.append((key, 1))
                self.assertEqual(plan.rest_steps(), sorted(steps))

    def test_gain_and_begun_of_wide_plans(self):
        for seed in range(5):
            web = wide_web()
            plan = random_plan(web, seed)
            self.assertEqual(plan.gain, -sum(sheet[4] * plan.amount(sheet[0]) for sheet in web.line_sheets()))
            self.assertEqual(plan.begun, sum(plan.amount(key) for key in web.lines_from(())))
            self.assertGreater(plan.begun, 20)
            self.assertEqual(plan.amounts(), {key: plan.amount(key) for key in web.line_keys() if plan.amount(key)})

    def test_equality(self):
        plan = Plan(small_web(), SMALL)
        self.assertTrue(plan == Plan(small_web(), {**SMALL, ("free", "hill", 0): 0}))
        self.assertFalse(plan != Plan(small_web(), SMALL))
        more = {**SMALL, ("hire", "men"): 1, ("buy", "quay", 0): 1}
        self.assertIs(plan == Plan(small_web(), more), False)
        dearer = small_web().without("mow").with_asking(small_askings()[2].with_terms(1, 8))
        self.assertIs(plan == Plan(dearer, SMALL), False)
        for value in odd_values() + [SMALL]:
            self.assertIs(plan == value, False)


def is_hashable(value):
    try:
        hash(value)
    except TypeError:
        return False
    return True


class StepsTest(unittest.TestCase):
    def test_costs(self):
        web = small_web()
        self.assertEqual(steps_cost(web, []), 0)
        self.assertEqual(steps_cost(web, ()), 0)
        self.assertEqual(steps_cost(web, [(("buy", "quay", 0), 1)]), 10)
        steps = ((("work", "dig"), 1), (("work", "mow"), -1), (("hire", "men"), 1))
        self.assertEqual(steps_cost(web=web, steps=steps), -6 + 9 + 3)
        self.assertEqual(steps_cost(web, [(("work", "dig"), 1)] * 2 + [(("walk", "quay", "hill", 0), -1)]), -14)

    def test_wrong_steps(self):
        web = small_web()
        good = (("work", "dig"), 1)
        wrong = [
            (("work", "dig"), 0), (("work", "dig"), 2), (("work", "dig"), -2), (("work", "dig"), True),
            (("work", "dig"), "1"), [("work", "dig"), 1], (("work", "dig"),), (("work", "dig"), 1, 1), ("work", "dig"),
            (("work", "far"), 1),
            (("buy", "quay", True), 1), (("buy", "quay", 3), 1), (["work", "dig"], 1), (("walk", "hill", "quay", 0), 1),
        ]
        for value in odd_values():
            if not is_one_of(value, [[], ()]):
                with self.assertRaises(InvalidSteps, msg=repr(value)):
                    steps_cost(web, value)
        for value in wrong + [value for value in odd_values() if not is_one_of(value, [good])]:
            with self.assertRaises(InvalidSteps, msg=repr(value)):
                steps_cost(web, [good, value])
            self.assertIs(is_way(Plan(web, SMALL), [value], (), ("quay", 0)), False)
            self.assertIs(is_ring(Plan(web, SMALL), [good, value]), False)


class WayTest(unittest.TestCase):
    def setUp(self):
        self.plan = Plan(small_web(), SMALL)

    def test_ways(self):
        ways = [
            ([], (), ()), ((), ("quay", 1), ("quay", 1)), ([(("buy", "quay", 0), 1)], (), ("quay", 0)),
            ([(("free", "quay", 2), -1), (("work", "dig"), -1)], (), ("quay", 0)),
            ([(("work", "dig"), -1), (("walk", "quay", "hill", 0), 1)], ("quay", 2), ("hill", 1)),
            ([(("free", "hill", 0), 1), (("buy", "hill", 2), 1)], ("hill", 0), ("hill", 2)),
        ]
        for steps, start, end in ways:
            self.assertIs(is_way(self.plan, list(steps), start, end), True, (steps, start, end))
            self.assertIs(is_way(self.plan, tuple(steps), start, end), True, (steps, start, end))
        self.assertIs(is_way(plan=self.plan, steps=[], start=(), end=()), True)

    def test_no_ways(self):
        ways = [
            ([(("free", "quay", 2), -1), (("work", "dig"), -1), (("hire", "men"), -1)], (), ()),
            ([], (), ("quay", 0)), ([(("buy", "quay", 0), 1)], (), ("quay", 1)),
            ([(("buy", "quay", 0), 1)], ("quay", 0), ()),
            ([(("buy", "quay", 0), 1)], ("quay", 1), ("quay", 0)),
            ([(("buy", "quay", 0), -1)], ("quay", 0), ()), ([(("hire", "men"), 1)], (), ("quay", 0)),
            ([(("work", "mow"), 1)], ("hill", 1), ("quay", 2)),
            ([(("buy", "quay", 0), 1), (("wait", "quay", 1), 1)], (), ("quay", 2)),
            ([(("free", "hill", 0), 1), (("buy", "hill", 0), 1)], ("hill", 0), ("hill", 0)),
            ([(("free", "hill", 0), 1), (("buy", "hill", 0), 1), (("wait", "hill", 0), 1)], ("hill", 0), ("hill", 1)),
            ([(("wait", "hill", 0), 1), (("wait", "hill", 0), -1)], ("hill", 0), ("hill", 0)),
            ([(("wait", "hill", 0), 1), (("wait", "hill", 0), -1), (("wait", "hill", 0), 1)], ("hill", 0), ("hill", 1)),
        ]
        for steps, start, end in ways:
            self.assertIs(is_way(self.plan, steps, start, end), False, (steps, start, end))

    def test_a_line_below_its_room_or_above_0(self):
        plan = Plan(small_web(), SMALL)
        self.assertIs(is_way(plan, [(("work", "dig"), 1)], ("quay", 0), ("quay", 2)), True)
        self.assertIs(is_way(plan, [(("work", "dig"), -1)], ("quay", 2), ("quay", 0)), True)
        self.assertIs(is_way(plan, [(("work", "mow"), 1)], ("hill", 1), ("quay", 2)), False)
        self.assertIs(is_way(plan, [(("wait", "quay", 0), -1)], ("quay", 1), ("quay", 0)), False)

    def test_any_value(self):
        for value in odd_values():
            self.assertIs(is_ring(self.plan, value), False)
            self.assertIs(is_way(self.plan, value, (), ()), is_one_of(value, [[], ()]))
            self.assertIs(is_way(self.plan, [value], (), ()), False)
            self.assertIs(is_way(self.plan, [], (), value), is_one_of(value, [()]))
            self.assertIs(is_way(self.plan, [], value, value), is_one_of(value, self.plan.web.places()), repr(value))
        self.assertIs(is_way(self.plan, [], ("quay", 3), ("quay", 3)), False)
        self.assertIs(is_way(self.plan, [], ("quay", 1), ("quay", True)), False)
        self.assertIs(is_way(self.plan, [], ("quay", True), ("quay", 1)), False)

    def test_random_walks(self):
        luck = random.Random(3)
        seen = {True: 0, False: 0}
        for web in (small_web(), wide_web(), wide_web(since=5)):
            for seed in range(4):
                plan = random_plan(web, seed)
                for _ in range(60):
                    steps, visited = random_walk(plan, luck, luck.choice(web.places()), luck.randrange(8))
                    right = len(set(visited)) == len(visited)
                    seen[right] += 1
                    self.assertIs(is_way(plan, steps, visited[0], visited[-1]), right)
                    for place in luck.sample(web.places(), 3):
                        self.assertIs(is_way(plan, steps, visited[0], place), right and place == visited[-1])
                        self.assertIs(is_way(plan, steps, place, visited[-1]), right and place == visited[0])
                    broken = steps[:1] + steps[2:]
                    if len(steps) > 2 and right:
                        self.assertIs(is_way(plan, broken, visited[0], visited[-1]), False)
        self.assertGreater(min(seen.values()), 50)


class RingTest(Raising):
    def setUp(self):
        self.plan = Plan(small_web(), SMALL)
        self.ring = [(("buy", "quay", 0), 1), (("work", "dig"), 1), (("free", "quay", 2), 1)]

    def test_rings(self):
        rings = [
            self.ring, tuple(self.ring), self.ring[1:] + self.ring[:1], self.ring[2:] + self.ring[:2],
            [(("hire", "men"), -1), (("buy", "quay", 0), 1)], [(("buy", "quay", 0), 1), (("hire", "men"), -1)],
            [(("free", "quay", 2), -1), (("work", "mow"), -1), (("free", "hill", 1), 1)],
            [(("work", "dig"), -1), (("wait", "quay", 0), 1), (("wait", "quay", 1), 1)],
            [(("buy", "hill", 2), 1), (("free", "hill", 2), 1)],
        ]
        for ring in rings:
            self.assertIs(is_ring(self.plan, ring), True, ring)
        self.assertIs(is_ring(plan=self.plan, steps=self.ring), True)

    def test_no_rings(self):
        rings = [
            [], self.ring[:1], self.ring[:2], self.ring[1:], self.ring * 2, self.ring + self.ring[:1], self.ring[::-1],
            [(("hire", "men"), 1), (("buy", "quay", 0), -1)], [(("buy", "quay", 1), 1), (("buy", "quay", 1), -1)],
            [(("work", "dig"), 1), (("work", "dig"), -1)],
            [(("buy", "quay", 0), 1), (("free", "quay", 0), 1), (("buy", "hill", 0), 1), (("free", "hill", 0), 1)],
            [(("hire", "men"), 1), (("work", "dig"), 1), (("free", "quay", 2), 1)],
            [(("work", "mow"), 1), (("free", "quay", 2), 1), (("buy", "hill", 1), 1)],
        ]
        for ring in rings:
            self.assertIs(is_ring(self.plan, ring), False, ring)
            self.raises(InvalidSteps, [], lambda: turned(self.plan, ring, 0))

    def test_turned(self):
        for many in (1, None):
            other = turned(self.plan, self.ring) if many is None else turned(plan=self.plan, ring=self.ring, many=many)
            self.assertEqual(other.gain, self.plan.gain - steps_cost(self.plan.web, self.ring))
            self.assertEqual(other.amounts(), {
                **SMALL, ("buy", "quay", 0): 1, ("work", "dig"): 3, ("free", "quay", 2): 4,
            })
            self.assertEqual(self.plan.amounts(), SMALL)
        buys = [(("buy", "hill", 2), 1), (("free", "hill", 2), 1)]
        self.assertEqual(turned(self.plan, tuple(buys), 99).amount(("buy", "hill", 2)), 99)
        gone = turned(self.plan, [(("work", "dig"), -1), (("wait", "quay", 0), 1), (("wait", "quay", 1), 1)], 2)
        self.assertEqual(gone.amount(("work", "dig")), 0)
        self.assertNotIn(("work", "dig"), gone.amounts())

    def test_turned_too_often(self):
        self.raises(OverRoom, [("work", "dig")], lambda: turned(self.plan, self.ring, 2))
        ring = [(("work", "dig"), -1), (("wait", "quay", 0), 1), (("wait", "quay", 1), 1)]
        self.raises(OverRoom, [("work", "dig")], lambda: turned(self.plan, ring, 3))
        self.raises(OverRoom, [("wait", "quay", 0)], lambda: turned(self.plan, ring, 5))
        back = [(("free", "quay", 2), -1), (("work", "dig"), -1), (("hire", "men"), -1)]
        self.raises(OverRoom, [("free", "quay", 2)], lambda: turned(self.plan, back, 4))
        self.raises(OverRoom, [("hire", "men")], lambda: turned(self.plan, back, 3))

    def test_wrong_turns(self):
        for value in [0, 100, -1, True, None, "1", [1], (), self.plan]:
            self.raises(InvalidNumber, [value], lambda: turned(self.plan, self.ring, value))
        for value in odd_values():
            self.raises(InvalidSteps, [], lambda: turned(self.plan, value, None))

    def test_random_rings(self):
        luck = random.Random(5)
        rings = 0
        for web in (small_web(), wide_web(), wide_web(since=5)):
            for seed in range(4):
                plan = random_plan(web, seed)
                for _ in range(80):
                    steps, visited = random_walk(plan, luck, luck.choice(web.places()), luck.randrange(9))
                    lines = [key for key, _ in steps]
                    right = (
                        len(steps) >= 2 and visited[0] == visited[-1] and len(set(lines)) == len(lines)
                        and len(set(visited)) == len(steps)
                    )
                    self.assertIs(is_ring(plan, steps), right)
                    if right:
                        rings += 1
                        self.check_turned(plan, steps, luck.randrange(1, 100))
        self.assertGreater(rings, 100)

    def check_turned(self, plan, ring, many):
        signs = dict(ring)
        amounts = {key: plan.amount(key) + signs.get(key, 0) * many for key in plan.web.line_keys()}
        over = [
            sheet[0] for sheet in plan.web.line_sheets()
            if amounts[sheet[0]] < 0 or (sheet[3] is not None and amounts[sheet[0]] > sheet[3])
        ]
        if over:
            self.raises(OverRoom, over[:1], lambda: turned(plan, ring, many))
            amounts = {key: plan.amount(key) + signs.get(key, 0) for key in plan.web.line_keys()}
            many = 1
        other = turned(plan, ring, many)
        self.assertTrue(other == Plan(plan.web, amounts))
        self.assertEqual(other.gain, plan.gain - many * steps_cost(plan.web, ring))


if __name__ == "__main__":
    unittest.main()
