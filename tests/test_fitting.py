import random
import unittest

from standworth.askings import Hire
from standworth.best import best_gain, best_plan
from standworth.errors import InvalidName, OtherStandings
from standworth.fitting import ceiling, ends, fits, greatest_row, least_row, middle_row, misfit, row_of
from standworth.gaps import least_way
from standworth.lands import Land
from standworth.plans import Plan, is_way, steps_cost, turned
from standworth.webs import Web
from standworth.worths import Worths, joined, met
from tests.reference import (
    all_rings, all_rows, fitting_rows, free_plan, is_fitting_row, large_webs, slow_best_plan, tiny_webs,
)
from tests.samples import Raising, odd_values, small_askings, small_land, small_web, wide_web


def few_standings(many=60):
    """Tiny webs for which all rows can be tried, with all their best plans."""
    for web, plans in tiny_webs(many, yards=2, last=1, top=3):
        yield web, plans


def ceiling_by_words(web, row):
    total = 0
    for _, start, end, room, fee, _ in web.line_sheets():
        dealt = row.worth(end) - row.worth(start) - fee
        if dealt > 0:
            if room is None:
                return None
            total += room * dealt
    for standing in web.standings():
        total += web.given_at(standing) * row.worth(standing)
    return total


def misfits_by_words(plan, row):
    found = []
    for key, start, end, room, fee, _ in plan.web.line_sheets():
        between = row.worth(end) - row.worth(start)
        if (between > fee and plan.amount(key) != room) or (between < fee and plan.amount(key) != 0):
            found.append(key)
    return found


class MisfitTest(Raising):
    def test_the_first_misfit_of_all_rows(self):
        several = 0
        for web, plans in few_standings(25):
            for plan in [plans[0], free_plan(web)]:
                for row in all_rows(web):
                    misfits = misfits_by_words(plan, row)
                    several += len(misfits) > 1
                    self.assertEqual(misfit(plan, row), misfits[0] if misfits else None)
                    self.assertIs(fits(plan, row), not misfits)
        self.assertGreater(several, 1000)

    def test_each_kind_of_misfit(self):
        land = Land(1, 10, [("quay", 1, 2)])
        web = Web(land, [Hire("men", "bob", ("quay", 0), 2, 3)])
        full = {("hire", "men"): 2, ("wait", "quay", 0): 2, ("free", "quay", 1): 2}
        rows = [
            ({("quay", 0): 3, ("quay", 1): 4}, full, ("free", "quay", 1)),
            ({("quay", 0): 3, ("quay", 1): 0}, full, ("wait", "quay", 0)),
            ({("quay", 0): 2, ("quay", 1): 0}, full, ("hire", "men")),
            ({("quay", 0): 3, ("quay", 1): -1}, {}, ("free", "quay", 1)),
            ({("quay", 0): 4, ("quay", 1): 0}, {}, ("hire", "men")),
            ({("quay", 0): 4, ("quay", 1): 0}, {("hire", "men"): 1, ("free", "quay", 0): 1}, ("free", "quay", 0)),
            ({("quay", 0): 0, ("quay", 1): 2}, {}, ("wait", "quay", 0)),
            ({("quay", 0): 11, ("quay", 1): 0}, {}, ("buy", "quay", 0)),
            ({("quay", 0): 11, ("quay", 1): 12}, {("buy", "quay", 0): 9, ("free", "quay", 0): 9}, ("buy", "quay", 0)),
            ({("quay", 0): 3, ("quay", 1): 4}, {}, None), ({("quay", 0): 0, ("quay", 1): 0}, {}, None),
            ({("quay", 0): 0, ("quay", 1): 0}, {("buy", "quay", 0): 1, ("free", "quay", 0): 1}, ("buy", "quay", 0)),
        ]
        for worths, amounts, key in rows:
            plan = Plan(web, amounts)
            self.assertEqual(misfit(plan, Worths(worths)), key, (worths, amounts))
            self.assertIs(fits(plan=plan, row=Worths(worths)), key is None)

    def test_other_standings(self):
        web = small_web()
        plan = best_plan(web)
        worths = least_row(web).worths()
        wrong = [
            Worths({}), Worths({**worths, ("far", 0): 0}), Worths({**worths, ("quay", 3): 0}),
            Worths({place: worths[place] for place in list(worths)[1:]}), least_row(web).part(1), worths,
        ]
        for value in wrong + odd_values():
            for call in (misfit, fits):
                self.raises(OtherStandings, [], lambda: call(plan, value))
            self.raises(OtherStandings, [], lambda: ceiling(web, value))
        later = Plan(Web(small_land(), since=1), {})
        self.assertIsNone(misfit(later, Worths(worths).part(1) & Worths({place: 0 for place in worths if place[1]})))
        self.raises(OtherStandings, [], lambda: misfit(later, Worths(worths)))

    def test_webs_without_lines(self):
        web = Web(small_land(), small_askings(), since=3)
        self.assertIsNone(misfit(Plan(web, {}), Worths({})))
        self.assertIs(fits(Plan(web, {}), Worths({})), True)
        self.assertEqual(ceiling(web, Worths({})), 0)
        for row in (least_row(web), greatest_row(web), middle_row(web), row_of(web, "least")):
            self.assertTrue(row == Worths({}))
        self.assertEqual(ends(web), {})


class CeilingTest(Raising):
    def test_all_rows_of_tiny_webs(self):
        for web, plans in few_standings(30):
            others = [free_plan(web), *[turned(plans[0], ring) for ring in all_rings(plans[0])[:9]]]
            ceilings = []
            for row in all_rows(web):
                bound = ceiling(web, row)
                self.assertEqual(bound, ceiling_by_words(web, row))
                if bound is not None:
                    ceilings.append(bound)
                    for plan in [*plans[:3], *others]:
                        self.assertLessEqual(plan.gain, bound)
                        self.assertIs(plan.gain == bound, fits(plan, row))
            self.assertEqual(min(ceilings), best_gain(web))

    def test_no_ceiling(self):
        web = Web(Land(1, 10, [("quay", 1, None), ("hill", 1, 5)], roads=[("quay", "hill", 1, 2)]))
        standings = web.standings()
        level = {place: 4 for place in standings}
        self.assertEqual(ceiling(web, Worths(level)), 0)
        self.assertEqual(ceiling(web, Worths({**level, ("hill", 1): 6, ("hill", 0): 6})), 0)
        self.assertEqual(ceiling(web, Worths({**level, ("hill", 1): 6})), 5)
        self.assertIsNone(ceiling(web, Worths({**level, ("hill", 1): 7})))
        self.assertIsNone(ceiling(web, Worths({**level, ("quay", 1): 6})))
        self.assertIsNone(ceiling(web, Worths({**level, ("quay", 0): 11})))
        self.assertIsNone(ceiling(web, Worths({**level, ("hill", 0): -1})))
        self.assertEqual(ceiling(web=web, row=Worths({place: 10 for place in standings})), 0)

    def test_given_crews_count(self):
        web = small_web()
        row = Worths({place: 3 for place in web.standings()})
        self.assertEqual(ceiling(web, row), ceiling_by_words(web, row))
        self.assertEqual(ceiling(web.with_given(("quay", 2), -2), row), ceiling(web, row) - 6)
        self.assertEqual(ceiling(web.with_given(("hill", 0), 9), row), ceiling(web, row) + 27)

    def test_large_webs(self):
        luck = random.Random(4)
        for web in large_webs():
            for row in (least_row(web), greatest_row(web), middle_row(web)):
                self.assertEqual(ceiling(web, row), best_gain(web))
                standing = luck.choice(web.standings())
                other = Worths({**row.worths(), standing: row.worth(standing) + luck.choice([-1, 1, 40])})
                self.assertEqual(ceiling(web, other), ceiling_by_words(web, other))


class RowsTest(Raising):
    def test_tiny_webs_by_all_rows(self):
        for web, plans in few_standings():
            rows = fitting_rows(plans[0])
            for plan in plans[1:]:
                self.assertTrue(all(fits(plan, row) for row in rows))
            least, greatest, middle = least_row(web), greatest_row(web), middle_row(web)
            self.assertTrue(least == met(*rows))
            self.assertTrue(greatest == joined(*rows))
            self.assertTrue(any(least == row for row in rows))
            self.assertTrue(any(greatest == row for row in rows))
            self.assertTrue(any(middle == row for row in rows))
            self.assertTrue(middle == least.between(greatest))
            for habit, row in (("least", least), ("greatest", greatest), ("middle", middle)):
                self.assertTrue(row_of(web, habit) == row)
            pairs = {place: (least.worth(place), greatest.worth(place)) for place in web.standings()}
            self.assertEqual(ends(web), pairs)
            self.assertEqual(list(ends(web)), web.standings())

    def test_met_joined_and_between_fit(self):
        luck = random.Random(9)
        for web, plans in few_standings(40):
            rows = fitting_rows(plans[0])
            for _ in range(20):
                some = [luck.choice(rows) for _ in range(3)]
                for row in (met(*some), joined(*some), some[0].between(some[1]), some[0] & some[1], some[1] | some[2]):
                    self.assertTrue(all(fits(plan, row) for plan in plans))
            for row in rows:
                self.assertTrue(all(0 <= worth <= web.land.top for worth in row.worths().values()))

    def test_only_best_plans_have_fitting_rows(self):
        for web, plans in few_standings(20):
            for ring in all_rings(plans[0])[:12]:
                plan = turned(plans[0], ring)
                self.assertIs(len(fitting_rows(plan)) > 0, plan.gain == plans[0].gain)

    def test_large_webs(self):
        """A way home, and one from home, show that no worth could be less, or greater."""
        for web in [wide_web(), *large_webs()]:
            plan = best_plan(web)
            told = ends(web)
            for row in (least_row(web), greatest_row(web), middle_row(web)):
                self.assertTrue(is_fitting_row(web, row, plan))
                self.assertTrue(all(0 <= worth <= web.land.top for worth in row.worths().values()))
            for standing in web.standings():
                for start, end, cost in [(standing, (), -told[standing][0]), ((), standing, told[standing][1])]:
                    way = least_way(plan, start, end)[1]
                    self.assertIs(is_way(plan, way, start, end), True)
                    self.assertEqual(steps_cost(web, way), cost)
                self.assertEqual(told[standing], (least_row(web).worth(standing), greatest_row(web).worth(standing)))
                self.assertEqual(middle_row(web).worth(standing), sum(told[standing]) // 2)
                if standing[1] < web.since + 6:
                    break

    def test_by_hand(self):
        web = small_web()
        self.assertEqual(ends(web), self.ends_by_bounds(web))
        land = Land(0, 7, [("quay", 0, None)])
        self.assertEqual(ends(Web(land)), {("quay", 0): (0, 7)})
        self.assertEqual(ends(Web(land, given=[(("quay", 0), 1)])), {("quay", 0): (0, 0)})
        self.assertEqual(ends(Web(land, given=[(("quay", 0), -1)])), {("quay", 0): (7, 7)})
        hire = Hire("men", "bob", ("quay", 0), 2, 4)
        self.assertEqual(ends(Web(land, [hire])), {("quay", 0): (0, 4)})
        self.assertEqual(ends(Web(land, [hire], given=[(("quay", 0), -1)])), {("quay", 0): (4, 4)})
        self.assertEqual(ends(Web(land, [hire], given=[(("quay", 0), -2)])), {("quay", 0): (4, 7)})
        self.assertEqual(middle_row(Web(land, [hire], given=[(("quay", 0), -2)])).worths(), {("quay", 0): 5})

    def ends_by_bounds(self, web):
        """The ends by trying each worth at each standing, as there are too many rows to try."""
        plan = slow_best_plan(web)
        found = {}
        for standing in web.standings():
            worths = [worth for worth in range(-1, 12) if self.can_be_worth(plan, standing, worth)]
            found[standing] = (min(worths), max(worths))
        return found

    def can_be_worth(self, plan, standing, worth):
        """Whether bounds that are drawn tighter and tighter leave some worths, if one standing has a worth."""
        low = {place: 0 for place in plan.web.standings()}
        high = {place: 10 for place in plan.web.standings()}
        low[standing] = high[standing] = worth
        low[()] = high[()] = 0
        for _ in range(200):
            for key, start, end, room, fee, _ in plan.web.line_sheets():
                if room is None or plan.amount(key) < room:
                    high[end] = min(high[end], high[start] + fee)
                    low[start] = max(low[start], low[end] - fee)
                if plan.amount(key) > 0:
                    low[end] = max(low[end], low[start] + fee)
                    high[start] = min(high[start], high[end] - fee)
        return all(low[place] <= high[place] for place in low)

    def test_habits(self):
        for value in odd_values() + ["Least", "least ", "", "midst", ["least"], ("least",), {"least": 1}]:
            self.raises(InvalidName, [value], lambda: row_of(small_web(), value))
        self.assertTrue(row_of(web=small_web(), habit="middle") == middle_row(web=small_web()))

    def test_told_dicts_are_new(self):
        web = small_web()
        told = ends(web)
        told.clear()
        least_row(web).worths().clear()
        self.assertEqual(list(ends(web)), web.standings())
        self.assertTrue(least_row(web) == least_row(small_web()))

    def test_numbers_of_any_size(self):
        many = 10 ** 5000
        web = small_web().with_given(("quay", 0), many).with_given(("hill", 2), -2 * many)
        plan = best_plan(web)
        for habit in ("least", "greatest", "middle"):
            row = row_of(web, habit)
            self.assertIs(fits(plan, row), True)
            self.assertTrue(ceiling(web, row) == plan.gain)
        row = Worths({place: many for place in web.standings()})
        self.assertIsNone(ceiling(web, row))
        self.assertEqual(misfit(plan, row), ("buy", "hill", 0))


if __name__ == "__main__":
    unittest.main()
