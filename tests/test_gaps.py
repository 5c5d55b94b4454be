import random
import unittest

from standworth.best import best_plan, better_ring
from standworth.errors import InvalidNumber, NotBest, NotReached, UnknownStanding
from standworth.fitting import ends, fits, greatest_row, least_row
from standworth.gaps import gap, gap_range, least_way, row_with_gap
from standworth.lands import Land
from standworth.plans import Plan, is_ring, is_way, steps_cost
from standworth.webs import Web
from standworth.worths import Worths
from tests.reference import fitting_rows, is_fitting_row, large_webs, least_cost, tiny_webs
from tests.samples import (
    Raising, is_one_of, odd_values, random_plan, small_askings, small_land, small_web, told_by, wide_web,
)

QUAY, HILL = ("quay", 0), ("hill", 2)


def no_places(web):
    """Values that are no places of a web."""
    values = odd_values() + [("quay", 3), ("quay", True), ["quay", 0], [], ("mill", 0), ((),), ("quay", 0, 0)]
    return [value for value in values if not is_one_of(value, web.places())]


class GapTest(Raising):
    def test_gaps_at_a_row(self):
        row = Worths({QUAY: 3, ("quay", 1): -8, HILL: 10})
        gaps = [
            (QUAY, HILL, 7), (HILL, QUAY, -7), ((), HILL, 10), (HILL, (), -10), (QUAY, QUAY, 0), ((), (), 0),
            (("quay", 1), QUAY, 11),
        ]
        for one, other, number in gaps:
            self.assertEqual(gap(row, one, other), number)
            self.assertEqual(gap(row=row, one=one, other=other), number)

    def test_unknown_standings(self):
        row = least_row(small_web())
        for value in no_places(small_web()):
            self.raises(UnknownStanding, [value], lambda: gap(row, value, QUAY))
            self.raises(UnknownStanding, [value], lambda: gap(row, QUAY, value))
            self.raises(UnknownStanding, [value], lambda: gap(row, value, None))
        self.raises(UnknownStanding, [("far", 0)], lambda: gap(Worths({}), (), ("far", 0)))

    def test_gaps_of_any_size(self):
        many = 10 ** 5000
        row = Worths({QUAY: many, HILL: -many})
        self.assertTrue(gap(row, HILL, QUAY) == 2 * many)


class GapRangeTest(Raising):
    def test_tiny_webs_by_all_rows(self):
        wide = 0
        for web, plans in tiny_webs(50, yards=2, last=1, top=3):
            rows = fitting_rows(plans[0])
            for one in web.places():
                for other in web.places():
                    gaps = {gap(row, one, other) for row in rows}
                    least, greatest = gap_range(web, one, other)
                    self.assertEqual((least, greatest), (min(gaps), max(gaps)))
                    self.assertEqual(gaps, set(range(least, greatest + 1)))
                    wide += greatest - least > 1
                    for plan in plans[:2]:
                        self.assertEqual(greatest, least_cost(plan, one, other))
                    self.check_rows(web, plans[0], one, other, (least, greatest))
        self.assertGreater(wide, 50)

    def check_rows(self, web, plan, one, other, bounds):
        for wanted in range(bounds[0], bounds[1] + 1):
            row = row_with_gap(web, one, other, wanted)
            self.assertTrue(is_fitting_row(web, row, plan))
            self.assertEqual(gap(row, one, other), wanted)
        for wanted in (bounds[0] - 1, bounds[1] + 1):
            self.raises(NotReached, bounds, lambda: row_with_gap(web, one, other, wanted))

    def test_from_home_and_back(self):
        web = small_web()
        told = ends(web)
        for standing in web.standings():
            least, greatest = told[standing]
            self.assertEqual(gap_range(web, (), standing), (least, greatest))
            self.assertEqual(gap_range(web, standing, ()), (-greatest, -least))
            self.assertEqual(gap_range(web, standing, standing), (0, 0))
        self.assertEqual(gap_range(web=web, one=(), other=()), (0, 0))

    def test_large_webs(self):
        luck = random.Random(2)
        for web in [wide_web(), *large_webs()]:
            plan = best_plan(web)
            for _ in range(12):
                one, other = luck.sample(web.places(), 2)
                least, greatest = gap_range(web, one, other)
                self.assertEqual(greatest, least_cost(plan, one, other))
                self.assertEqual(least, -least_cost(plan, other, one))
                for wanted in {least, greatest, (least + greatest) // 2}:
                    row = row_with_gap(web, one, other, wanted)
                    self.assertTrue(is_fitting_row(web, row, plan))
                    self.assertEqual(gap(row, one, other), wanted)
                self.raises(NotReached, (least, greatest), lambda: row_with_gap(web, one, other, least - 1))
                self.raises(NotReached, (least, greatest), lambda: row_with_gap(web, one, other, greatest + 1))

    def test_the_only_home(self):
        web = Web(small_land(), small_askings(), since=3)
        self.assertEqual(gap_range(web, (), ()), (0, 0))
        self.assertTrue(row_with_gap(web, (), (), 0) == Worths({}))
        self.raises(NotReached, (0, 0), lambda: row_with_gap(web, (), (), 1))
        self.raises(UnknownStanding, [QUAY], lambda: gap_range(web, (), QUAY))
        self.assertEqual(least_way(Plan(web, {}), (), ()), (0, []))

    def test_unknown_standings(self):
        web = small_web()
        for value in no_places(web):
            self.raises(UnknownStanding, [value], lambda: gap_range(web, value, QUAY))
            self.raises(UnknownStanding, [value], lambda: gap_range(web, (), value))
            self.raises(UnknownStanding, [value], lambda: gap_range(web, value, None))
            self.raises(UnknownStanding, [value], lambda: row_with_gap(web, value, QUAY, 10 ** 6))
            self.raises(UnknownStanding, [value], lambda: row_with_gap(web, QUAY, value, None))
        later = Web(small_land(), since=1)
        self.raises(UnknownStanding, [QUAY], lambda: gap_range(later, ("quay", 1), QUAY))

    def test_wrong_numbers(self):
        web = small_web()
        for value in odd_values():
            if isinstance(value, int) and not isinstance(value, bool):
                continue
            self.raises(InvalidNumber, [value], lambda: row_with_gap(web, QUAY, HILL, value))
            self.raises(UnknownStanding, [("far", 0)], lambda: row_with_gap(web, QUAY, ("far", 0), value))
        bounds = gap_range(web, QUAY, HILL)
        many = 10 ** 5000
        for wanted in (999999999, -999999999, many, -many):
            self.raises(NotReached, bounds, lambda: row_with_gap(web, QUAY, HILL, wanted))

    def test_equal_calls(self):
        web = wide_web()
        rows = [row_with_gap(each, ("elm", 8), (), -6) for each in (web, wide_web(), web)]
        self.assertTrue(rows[0] == rows[1] and rows[1] == rows[2])
        self.assertTrue(web == wide_web())


class LeastWayTest(Raising):
    def check_way(self, plan, start, end):
        told = least_way(plan, start, end)
        self.assertIsInstance(told, tuple)
        cost, way = told
        self.assertIsInstance(way, list)
        self.assertIs(is_way(plan, way, start, end), True)
        self.assertEqual(steps_cost(plan.web, way), cost)
        self.assertEqual(cost, least_cost(plan, start, end))
        return cost

    def test_all_best_plans_of_tiny_webs(self):
        for web, plans in tiny_webs(40, last=1):
            for one in web.places():
                for other in web.places():
                    costs = {self.check_way(plan, one, other) for plan in plans[:3]}
                    self.assertEqual(costs, {gap_range(web, one, other)[1]})

    def test_large_webs(self):
        luck = random.Random(8)
        for web in large_webs():
            plan = best_plan(web)
            for _ in range(12):
                one, other = luck.sample(web.places(), 2)
                self.assertEqual(self.check_way(plan, one, other), gap_range(web, one, other)[1])
            self.assertEqual(least_way(plan=plan, start=one, end=one), (0, []))
            self.assertEqual(least_way(plan, (), ()), (0, []))

    def test_plans_that_are_not_best(self):
        for web in (small_web(), wide_web(), *large_webs()):
            plan = random_plan(web, 4)
            for places in [((), ()), (None, 5), (web.standings()[0], ())]:
                with self.assertRaises(NotBest) as caught:
                    least_way(plan, *places)
                self.assertIs(is_ring(plan, caught.exception.ring), True)
                self.assertLess(steps_cost(web, caught.exception.ring), 0)
                self.assertEqual(told_by(caught.exception), [repr(better_ring(plan))])

    def test_unknown_standings(self):
        plan = best_plan(small_web())
        for value in no_places(small_web()):
            self.raises(UnknownStanding, [value], lambda: least_way(plan, value, QUAY))
            self.raises(UnknownStanding, [value], lambda: least_way(plan, (), value))
            self.raises(UnknownStanding, [value], lambda: least_way(plan, value, None))

    def test_ways_and_plans_do_not_change(self):
        plan = best_plan(small_web())
        least_way(plan, QUAY, ())[1].clear()
        self.check_way(plan, QUAY, ())
        self.assertTrue(plan == best_plan(small_web()))

    def test_ways_bound_the_worths(self):
        land = Land(1, 10, [("quay", 2, 1), ("hill", 0, None)], roads=[("quay", "hill", 1, 4)])
        plan = best_plan(Web(land))
        self.assertEqual(least_way(plan, QUAY, ("hill", 1)), (4, [(("walk", "quay", "hill", 0), 1)]))
        self.assertEqual(least_way(plan, QUAY, ("quay", 1)), (2, [(("wait", "quay", 0), 1)]))
        self.assertEqual(least_way(plan, ("quay", 1), QUAY), (10, [(("free", "quay", 1), 1), (("buy", "quay", 0), 1)]))
        full = Web(land, given=[(QUAY, 1), (("quay", 1), -1)])
        self.assertEqual(least_way(best_plan(full), QUAY, ("quay", 1))[0], 10)
        self.assertEqual(least_way(best_plan(full), ("quay", 1), QUAY), (-2, [(("wait", "quay", 0), -1)]))
        self.assertEqual(gap_range(full, QUAY, ("quay", 1)), (2, 10))
        self.assertTrue(fits(best_plan(full), greatest_row(full)))


if __name__ == "__main__":
    unittest.main()
