import random
import unittest

from standworth.askings import Hire, Work
from standworth.best import best_gain, best_plan, better_ring, is_best, judge
from standworth.lands import Land
from standworth.plans import Plan, is_ring, steps_cost, turned
from standworth.webs import Web
from tests.reference import all_rings, fits_by_words, free_plan, is_fitting_row, large_webs, slow_best_plan, tiny_webs
from tests.samples import random_plan, small_askings, small_land, small_web, wide_land, wide_web


def ceiling_by_words(web, row):
    """The ceiling of a row at which no endless line has a gap above its fee."""
    total = sum(many * row.worth(standing) for standing, many in web.given())
    for _, start, end, room, fee, _ in web.line_sheets():
        if room is not None:
            total += room * max(0, row.worth(end) - row.worth(start) - fee)
    return total


class BestTest(unittest.TestCase):
    def check_not_best(self, plan):
        ring = better_ring(plan)
        self.assertIsInstance(ring, list)
        self.assertIs(is_ring(plan, ring), True)
        self.assertLess(steps_cost(plan.web, ring), 0)
        self.assertIs(is_best(plan), False)
        word, told = judge(plan)
        self.assertEqual(word, "worse")
        self.assertIs(is_ring(plan, told), True)
        self.assertLess(steps_cost(plan.web, told), 0)

    def check_best(self, plan):
        self.assertIsNone(better_ring(plan))
        self.assertIs(is_best(plan), True)
        verdict = judge(plan)
        self.assertIsInstance(verdict, tuple)
        self.assertEqual(verdict[0], "best")
        self.assertTrue(is_fitting_row(plan.web, verdict[1], plan))
        self.assertEqual(ceiling_by_words(plan.web, verdict[1]), plan.gain)

    def test_the_small_web(self):
        plan = best_plan(small_web())
        self.assertEqual((plan.gain, best_gain(small_web())), (8, 8))
        self.assertTrue(plan.web == small_web())
        self.check_best(plan)

    def test_tiny_webs_by_trying_all_rings(self):
        for web, plans in tiny_webs(120):
            gain = plans[0].gain
            self.assertEqual(best_gain(web), gain)
            plan = best_plan(web)
            self.assertEqual(plan.gain, gain)
            self.assertTrue(any(plan == other for other in plans))
            for other in plans:
                self.check_best(other)

    def test_other_plans_of_tiny_webs(self):
        worse = 0
        for at, (web, plans) in enumerate(tiny_webs(60)):
            others = [free_plan(web), *[turned(plans[0], ring) for ring in all_rings(plans[0])]]
            if web.line_keys():
                others.append(random_plan(web, at, crews=4))
            for plan in others:
                gaining = [ring for ring in all_rings(plan) if steps_cost(web, ring) < 0]
                worse += len(gaining) > 0
                if gaining:
                    self.check_not_best(plan)
                else:
                    self.check_best(plan)
                self.assertEqual(plan.gain == plans[0].gain, not gaining)
        self.assertGreater(worse, 200)

    def test_turning_better_rings_leads_to_a_best_plan(self):
        for web in [small_web(), wide_web(), wide_web(since=4)]:
            for seed in range(2):
                plan = random_plan(web, seed, crews=10)
                while (ring := better_ring(plan)) is not None:
                    other = turned(plan, ring)
                    self.assertEqual(other.gain, plan.gain - steps_cost(web, ring))
                    self.assertGreater(other.gain, plan.gain)
                    plan = other
                self.assertEqual(plan.gain, best_gain(web))
                self.check_best(plan)

    def test_large_webs(self):
        for web in [wide_web(), wide_web(since=4), *large_webs()]:
            plan = best_plan(web)
            self.check_best(plan)
            self.check_not_best(random_plan(web, 5))
            costly = [ring for ring in self.rings_of_two(plan) if steps_cost(web, ring) > 0]
            self.assertTrue(costly)
            self.check_not_best(turned(plan, costly[0]))

    def rings_of_two(self, plan):
        return [
            [(("buy", *standing), 1), (("free", *standing), 1)] for standing in plan.web.standings()
        ]

    def test_a_top_of_999_and_crews_up_to_99(self):
        wide = wide_land()
        land = Land(8, 999, wide.yards(), roads=wide.roads())
        luck = random.Random(1)
        yards = [yard[0] for yard in land.yards()]
        askings = []
        for at in range(24):
            name, hour = f"w{'abcdefghijklmnopqrstuvwxyz'[at]}", luck.randrange(8)
            if at % 3:
                end = (luck.choice(yards), luck.randrange(hour + 1, 9))
                askings.append(Work(name, "ann", (luck.choice(yards), hour), end, 99, luck.randrange(1000), rank=at))
            else:
                askings.append(Hire(name, "bob", (luck.choice(yards), hour), 99, luck.randrange(1000)))
        for given in ([], [(standing, luck.randrange(-99, 100)) for standing in land.standings()]):
            self.check_best(best_plan(Web(land, askings, given=given)))

    def test_webs_without_lines_and_without_askings(self):
        bare = Web(small_land(), small_askings(), since=3)
        self.assertEqual((best_plan(bare).amounts(), best_gain(bare)), ({}, 0))
        self.assertIs(is_best(Plan(bare, {})), True)
        self.assertIsNone(better_ring(Plan(bare, {})))
        word, row = judge(Plan(bare, {}))
        self.assertEqual((word, row.worths()), ("best", {}))
        for land in (small_land(), wide_land()):
            self.assertEqual((best_plan(Web(land)).amounts(), best_gain(Web(land))), ({}, 0))
            self.check_best(Plan(Web(land), {}))

    def test_given_crews_and_crews_called_away(self):
        land = Land(2, 10, [("quay", 1, 2), ("hill", 0, None)], roads=[("quay", "hill", 1, 4)])
        gains = [
            ([(("quay", 0), 3)], 0), ([(("quay", 0), -3)], -30), ([(("quay", 0), 3), (("quay", 1), -3)], -2 - 10),
            ([(("quay", 0), 3), (("hill", 2), -4)], -12 - 10), ([(("quay", 0), 3), (("hill", 0), -1)], -10),
            ([(("quay", 2), 99), (("quay", 0), -1), (("hill", 2), -1)], -20),
            ([(("quay", 0), -10 ** 9 + 1), (("hill", 2), 10 ** 9 - 1)], -10 * (10 ** 9 - 1)),
            ([(("quay", 0), 10 ** 9 - 1), (("hill", 2), -10 ** 9 + 1)], -4 * (10 ** 9 - 1)),
        ]
        for given, gain in gains:
            web = Web(land, given=given)
            self.assertEqual(best_gain(web), gain, given)
            self.check_best(best_plan(web))
            if len(given) == 1:
                self.check_best(free_plan(web))

    def test_numbers_of_any_size(self):
        many = 7 * 10 ** 5000
        web = small_web().with_given(("quay", 0), many).with_given(("hill", 2), -3 * many)
        plan = best_plan(web)
        self.check_best(plan)
        self.assertTrue(plan.gain < -10 * many)
        self.assertEqual(better_ring(turned(plan, [(("buy", "hill", 0), 1), (("free", "hill", 0), 1)])) is None, False)

    def test_equal_webs_have_equal_best_plans(self):
        web = wide_web()
        other = Web(wide_land(), list(reversed(web.askings())), given=list(reversed(web.given())))
        for _ in range(2):
            self.assertTrue(best_plan(web) == best_plan(other))
            plan = random_plan(web, 2)
            self.assertEqual(better_ring(plan), better_ring(Plan(other, plan.amounts())))
            self.assertTrue(judge(best_plan(web))[1] == judge(best_plan(other))[1])
        self.assertTrue(web == wide_web())

    def test_plans_do_not_change(self):
        plan = random_plan(small_web(), 1)
        amounts = plan.amounts()
        ring = better_ring(plan)
        ring.clear()
        judge(plan)[1].clear()
        self.assertEqual(plan.amounts(), amounts)
        self.check_not_best(plan)

    def test_arguments_by_name(self):
        web = small_web()
        plan = best_plan(web=web)
        self.assertEqual(best_gain(web=web), plan.gain)
        self.assertIs(is_best(plan=plan), True)
        self.assertIsNone(better_ring(plan=plan))
        self.assertTrue(fits_by_words(plan, judge(plan=plan)[1]))

    def test_the_reference_itself(self):
        """What the tests above lean on: a plan by turned rings and one that is known by hand."""
        self.assertEqual(slow_best_plan(small_web()).gain, 8)


if __name__ == "__main__":
    unittest.main()
