import unittest
from itertools import combinations

from standworth.askings import Hire, Work
from standworth.best import best_gain, best_plan
from standworth.dues import brings, dues, line_due, own_gain, stock, wish
from standworth.errors import NotFitting, OtherStandings, UnknownLine, UnknownName
from standworth.fitting import greatest_row, least_row, middle_row, misfit, row_of
from standworth.lands import Land
from standworth.plans import Plan
from standworth.settled import settled_plan
from standworth.webs import Web
from standworth.words import HABITS
from standworth.worths import Worths
from tests.reference import fitting_rows, free_plan, large_webs, slow_best_plan, tiny_webs
from tests.samples import Raising, odd_values, small_askings, small_land, small_web, wide_land, wide_web

QUAY, DIG = ("quay", 0), ("work", "dig")


def dealt_by(row, web, key):
    """Gap minus fee of a line."""
    _, start, end, _, fee, _ = web.line_sheet(key)
    return row.worth(end) - row.worth(start) - fee


def wish_by_words(web, row, owner):
    total = 0
    for key, _, _, room, _, whose in web.line_sheets():
        if whose == owner and dealt_by(row, web, key) > 0:
            if room is None:
                return None
            total += room * dealt_by(row, web, key)
    return total


def tiny_fits():
    """Tiny webs with some best plans and some fitting rows of each."""
    for web, plans in tiny_webs(60, yards=2, last=1, top=3):
        yield web, plans[:5], fitting_rows(plans[0])[:12]
    for web, plans in tiny_webs(60, yards=3, last=3, top=6, askings=6):
        yield web, plans[:5], [row_of(web, habit) for habit in HABITS]


def large_fits():
    for web in large_webs():
        yield web, [best_plan(web), settled_plan(web)], [row_of(web, habit) for habit in HABITS]


def worked_web():
    """A web in which beds are scarce, so that the town is due something."""
    land = Land(1, 10, [("quay", 1, 1)])
    works = [Work("dig", "ann", QUAY, ("quay", 1), 1, 6), Hire("men", "bob", QUAY, 3, 2),
             Hire("more", "cyd", ("quay", 1), 1, 8)]
    return Web(land, works, given=[(("quay", 1), -3)])


class DuesTest(Raising):
    def test_by_hand(self):
        web = worked_web()
        plan = best_plan(web)
        self.assertEqual(plan.amounts(), {
            ("hire", "men"): 2, DIG: 1, ("wait", "quay", 0): 1, ("hire", "more"): 1,
        })
        row = Worths({QUAY: 2, ("quay", 1): 9})
        self.assertEqual(dues(plan, row), {"": 6, "ann": 13, "bob": 0, "cyd": 1})
        self.assertEqual(stock(web, row), -27)
        self.assertEqual(line_due(plan, row, ("wait", "quay", 0)), 6)
        self.assertEqual(line_due(plan, row, DIG), 13)
        self.assertEqual(plan.gain, -4 + 6 - 1 - 8)

    def check_dues(self, web, plans, rows):
        for row in rows:
            told = [dues(plan, row) for plan in plans]
            self.assertEqual(told, [told[0]] * len(plans))
            self.assertEqual(list(told[0]), ["", *web.owners()])
            by_owner = {owner: 0 for owner in told[0]}
            for key, _, _, room, _, owner in web.line_sheets():
                due = line_due(plans[0], row, key)
                self.assertEqual(due, plans[0].amount(key) * dealt_by(row, web, key))
                self.assertEqual([line_due(plan, row, key) for plan in plans], [due] * len(plans))
                self.assertGreaterEqual(due, 0)
                if room is None:
                    self.assertEqual(due, 0)
                by_owner[owner] += due
            self.assertEqual(told[0], by_owner)
            self.assertEqual(stock(web, row), sum(web.given_at(place) * row.worth(place) for place in web.standings()))
            self.assertEqual(sum(by_owner.values()) + stock(web, row), plans[0].gain)

    def test_facts_of_dues(self):
        for web, plans, rows in tiny_fits():
            self.check_dues(web, plans, rows)

    def test_facts_of_dues_on_large_webs(self):
        some = 0
        for web, plans, rows in large_fits():
            self.check_dues(web, plans, rows)
            some += dues(plans[0], rows[0])[""] > 0
        self.assertGreater(some, 0)

    def test_a_web_without_lines(self):
        web = Web(small_land(), small_askings(), since=3)
        plan, row = Plan(web, {}), Worths({})
        self.assertEqual((dues(plan, row), stock(web, row), wish(web, row, "")), ({"": 0}, 0, 0))
        self.raises(UnknownLine, [DIG], lambda: line_due(plan, row, DIG))

    def test_owners_are_those_of_the_web(self):
        web = Web(small_land(), small_askings(), since=1)
        self.assertEqual(list(dues(best_plan(web), least_row(web))), ["", "cyd"])

    def test_errors_in_order(self):
        web = small_web()
        plan, row = best_plan(web), least_row(web)
        worths = row.worths()
        others = [Worths({}), Worths({**worths, ("far", 0): 0}), row.part(1), worths, *odd_values()]
        for value in others:
            self.raises(OtherStandings, [], lambda: dues(plan, value))
            self.raises(OtherStandings, [], lambda: line_due(plan, value, None))
            self.raises(OtherStandings, [], lambda: line_due(free_plan(web), value, DIG))
            self.raises(OtherStandings, [], lambda: stock(web, value))
            self.raises(OtherStandings, [], lambda: wish(web, value, None))
        unfit = Worths({place: 9 for place in worths})
        key = misfit(plan, unfit)
        self.assertIsNotNone(key)
        self.raises(NotFitting, [key], lambda: dues(plan, unfit))
        self.raises(NotFitting, [key], lambda: line_due(plan, unfit, None))
        idle = free_plan(web)
        self.raises(NotFitting, [misfit(idle, row)], lambda: dues(idle, row))
        for value in odd_values() + [("wait", "quay", 2), ("wait", "quay", True), ("work", "dug")]:
            if not web.has_line(value):
                self.raises(UnknownLine, [value], lambda: line_due(plan, row, value))

    def test_by_name(self):
        web = small_web()
        plan, row = best_plan(web), least_row(web)
        self.assertEqual(line_due(plan=plan, row=row, key=DIG), line_due(plan, row, DIG))
        self.assertEqual(dues(plan=plan, row=row), dues(plan, row))
        self.assertEqual(stock(web=web, row=row), stock(web, row))
        self.assertEqual(wish(web=web, row=row, owner="ann"), wish(web, row, "ann"))
        self.assertEqual(own_gain(web=web, owners=["ann"]), own_gain(web, ("ann",)))
        self.assertEqual(brings(web=web, owner="ann"), brings(web, "ann"))

    def test_told_dicts_are_new(self):
        web = small_web()
        plan, row = best_plan(web), least_row(web)
        before = dues(plan, row)
        dues(plan, row).clear()
        self.assertEqual(dues(plan, row), before)


class WishTest(Raising):
    def test_at_any_row(self):
        web = worked_web()
        row = Worths({QUAY: 5, ("quay", 1): 9})
        wishes = [wish(web, row, owner) for owner in ("", "ann", "bob", "cyd")]
        self.assertEqual(wishes, [3, 10, 9, 1])
        self.assertEqual(wish(web, Worths({QUAY: -2, ("quay", 1): 9}), "bob"), 0)

    def test_the_town_may_have_none(self):
        web = worked_web()
        self.assertEqual(wish(web, Worths({QUAY: 0, ("quay", 1): 10}), ""), 9)
        self.assertIsNone(wish(web, Worths({QUAY: 0, ("quay", 1): 11}), ""))
        self.assertIsNone(wish(web, Worths({QUAY: -1, ("quay", 1): 0}), ""))
        self.assertEqual(wish(web, Worths({QUAY: -1, ("quay", 1): 0}), "ann"), 7)

    def test_many_rows(self):
        nothing, something = 0, 0
        for web in [*[web for web, _ in tiny_webs(40)], wide_web(), wide_web(since=2)]:
            for lift in range(-2, 4):
                worths = {place: (at * 7 + lift * 3) % 12 for at, place in enumerate(web.standings())}
                for owner in ["", *web.owners()]:
                    told = wish(web, Worths(worths), owner)
                    self.assertEqual(told, wish_by_words(web, Worths(worths), owner))
                    nothing += told is None
                    something += bool(told)
        self.assertGreater(min(nothing, something), 20)

    def test_at_a_fitting_row_each_owner_is_due_its_wish(self):
        for web, plans, rows in [*tiny_fits(), *large_fits()]:
            for row in rows:
                told = dues(plans[0], row)
                self.assertEqual({owner: wish(web, row, owner) for owner in told}, told)

    def test_unknown_owners(self):
        web = small_web()
        row = least_row(web)
        for value in odd_values() + ["dig", "anns", " ", ["ann"], ("ann",), {"ann": 1}]:
            if not isinstance(value, str) or value != "":
                self.raises(UnknownName, [value], lambda: wish(web, row, value))
        later = Web(small_land(), small_askings(), since=1)
        self.raises(UnknownName, ["ann"], lambda: wish(later, least_row(later), "ann"))
        self.assertEqual(wish(later, least_row(later), "cyd"), dues(best_plan(later), least_row(later))["cyd"])


class BringsTest(Raising):
    def test_by_hand(self):
        web = Web(Land(1, 10, [("quay", 0, None)]), [
            Work("dig", "ann", QUAY, ("quay", 1), 1, 6), Hire("men", "bob", QUAY, 1, 3), Hire("few", "cyd", QUAY, 1, 4),
        ])
        self.assertEqual([own_gain(web, lot) for lot in ([], ["ann"], ["ann", "bob"], ["cyd", "ann"])], [0, 0, 3, 2])
        self.assertEqual([brings(web, owner) for owner in ("ann", "bob", "cyd")], [3, 1, 0])

    def test_given_crews_stay(self):
        web = small_web()
        self.assertEqual(own_gain(web, []), slow_best_plan(Web(small_land(), given=web.given())).gain)
        self.assertLess(own_gain(web, []), 0)

    def test_own_gains_by_words(self):
        for web, _ in tiny_webs(60):
            for lot in [web.owners()[:1], web.owners()[1:], web.owners()]:
                askings = [asking for asking in web.askings() if asking.owner in lot]
                alone = Web(web.land, askings, given=web.given(), since=web.since)
                self.assertEqual(own_gain(web, lot), slow_best_plan(alone).gain)
            for owner in web.owners():
                askings = [asking for asking in web.askings() if asking.owner != owner]
                without = Web(web.land, askings, given=web.given(), since=web.since)
                self.assertEqual(brings(web, owner), slow_best_plan(web).gain - slow_best_plan(without).gain)

    def check_bounds(self, web, plans, rows):
        owners = web.owners()
        lots = [lot for many in range(len(owners) + 1) for lot in combinations(owners, many)]
        gains = {lot: own_gain(web, list(lot)) for lot in lots}
        brought = {owner: brings(web, owner) for owner in owners}
        self.assertEqual(gains[tuple(owners)], best_gain(web))
        for row in rows:
            told = dues(plans[0], row)
            for lot in lots:
                self.assertLessEqual(gains[lot], sum(told[owner] for owner in lot) + told[""] + stock(web, row))
            for owner in owners:
                self.assertLessEqual(told[owner], brought[owner])

    def test_facts(self):
        for web, plans, rows in tiny_fits():
            self.check_bounds(web, plans, rows)

    def test_facts_on_large_webs(self):
        for web, plans, rows in large_fits():
            self.check_bounds(web, plans, rows)
        web = wide_web()
        self.assertEqual(len(web.owners()), 5)
        self.check_bounds(web, [best_plan(web)], [least_row(web), greatest_row(web), middle_row(web)])

    def test_owners_may_stand_several_times(self):
        web = wide_web()
        self.assertEqual(own_gain(web, ["owna", "ownc", "owna", "ownc", "owna"]), own_gain(web, ["ownc", "owna"]))
        self.assertEqual(own_gain(web, ("owna",) * 400), own_gain(web, ["owna"]))

    def test_unknown_owners(self):
        web = small_web()
        for value in odd_values() + ["dig", "none", ["ann"], ("ann",)]:
            self.raises(UnknownName, [value], lambda: own_gain(web, ["ann", value, None]))
            self.raises(UnknownName, [value], lambda: own_gain(web, (value,)))
            self.raises(UnknownName, [value], lambda: brings(web, value))
        later = Web(small_land(), small_askings(), since=1)
        self.raises(UnknownName, ["bob"], lambda: own_gain(later, ["cyd", "bob", "ann"]))
        self.raises(UnknownName, ["bob"], lambda: brings(later, "bob"))
        self.assertEqual(brings(later, "cyd"), best_gain(later))

    def test_what_is_handed_in_stays(self):
        owners = ["ann", "bob", "ann"]
        own_gain(small_web(), owners)
        self.assertEqual(owners, ["ann", "bob", "ann"])
        self.assertEqual(own_gain(Web(wide_land(), []), []), 0)


if __name__ == "__main__":
    unittest.main()
