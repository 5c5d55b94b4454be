import random
import unittest

from standworth.askings import Hire, Work
from standworth.best import best_plan
from standworth.books import Books
from standworth.dues import dues
from standworth.errors import OtherStandings, UnknownLine
from standworth.fitting import fits, least_row, row_of
from standworth.lands import Land
from standworth.plans import Plan
from standworth.postings import line_entries, posting
from standworth.settled import settled_plan
from standworth.webs import Web
from standworth.words import HABITS
from standworth.worths import Worths
from tests.reference import free_plan, large_webs, tiny_webs
from tests.samples import (
    Raising, odd_values, random_plan, small_askings, small_land, small_web, wide_land, wide_web,
)

QUAY, DIG = ("quay", 0), ("work", "dig")


def entries_by_words(web, row, key, amount):
    _, start, end, _, _, owner = web.line_sheet(key)
    worths = {place: row.worth(place) for place in web.places()}
    entries = {owner: amount * (worths[end] - worths[start])}
    if start:
        entries[f"{start[0]} {start[1]}"] = amount * worths[start]
    if end:
        entries[f"{end[0]} {end[1]}"] = -amount * worths[end]
    return sorted(entries.items())


def some_rows(web):
    """Rows of habits and rows that hardly fit anything."""
    odd = Worths({place: (at * 17) % 23 - 5 for at, place in enumerate(web.standings())})
    return [*[row_of(web, habit) for habit in HABITS], odd]


def some_webs():
    for web, _ in tiny_webs(40):
        yield web
    yield from large_webs()
    yield wide_web()


class PostingTest(Raising):
    def test_by_hand(self):
        land = Land(2, 10, [("quay", 1, 4), ("hill", 0, None)], roads=[("quay", "hill", 1, 2)])
        web = Web(land, [Work("dig", "ann", QUAY, ("quay", 2), 3, 6), Hire("men", "bob", QUAY, 5, 3)])
        plan = Plan(web, {
            ("hire", "men"): 4, DIG: 2, ("walk", "quay", "hill", 0): 1, ("wait", "quay", 0): 1,
            ("wait", "hill", 1): 1, ("free", "quay", 1): 1, ("free", "quay", 2): 2, ("free", "hill", 2): 1,
        })
        row = Worths({("hill", 0): 9, ("hill", 1): 5, ("hill", 2): 0, QUAY: 4, ("quay", 1): -3, ("quay", 2): 2})
        self.assertEqual(posting(plan, row), [
            (("free", "hill", 2), 2, (("", 0), ("hill 2", 0))),
            (("free", "quay", 1), 1, (("", 3), ("quay 1", -3))),
            (("free", "quay", 2), 2, (("", -4), ("quay 2", 4))),
            (("hire", "men"), 0, (("bob", 16), ("quay 0", -16))),
            (("wait", "hill", 1), 1, (("", -5), ("hill 1", 5), ("hill 2", 0))),
            (("wait", "quay", 0), 0, (("", -7), ("quay 0", 4), ("quay 1", 3))),
            (("walk", "quay", "hill", 0), 0, (("", 1), ("hill 1", -5), ("quay 0", 4))),
            (DIG, 0, (("ann", -4), ("quay 0", 8), ("quay 2", -4))),
        ])
        self.assertIs(fits(plan, row), False)
        self.assertEqual(line_entries(plan, row, DIG), [("ann", -4), ("quay 0", 8), ("quay 2", -4)])
        self.assertEqual(line_entries(plan, row, ("wait", "hill", 0)), [("", 0), ("hill 0", 0), ("hill 1", 0)])
        self.assertEqual(line_entries(plan=plan, row=row, key=("buy", "hill", 2)), [("", 0), ("hill 2", 0)])

    def test_by_words(self):
        for web in some_webs():
            for plan in [settled_plan(web), free_plan(web), random_plan(web, 7)]:
                for row in some_rows(web):
                    wanted = []
                    for key in web.line_keys():
                        entries = entries_by_words(web, row, key, plan.amount(key))
                        self.assertEqual(line_entries(plan, row, key), entries)
                        if plan.amount(key) > 0:
                            start, end = web.line_sheet(key)[1:3]
                            wanted.append((key, (start or end)[1], tuple(entries)))
                    self.assertEqual(posting(plan=plan, row=row), wanted)

    def test_books_into_which_a_posting_was_posted(self):
        """The accounts of standings tell given crews times worth, and those of owners their dues."""
        for web in some_webs():
            for plan in [settled_plan(web), random_plan(web, 3)]:
                for row in some_rows(web):
                    books = Books()
                    rows = posting(plan, row)
                    self.assertEqual(books.square(rows), (0, len(rows)))
                    self.check_books(books, plan, row)

    def check_books(self, books, plan, row):
        web = plan.web
        for place in web.standings():
            self.assertEqual(books.balance(f"{place[0]} {place[1]}"), web.given_at(place) * row.worth(place))
        paid = {owner: 0 for owner in ["", *web.owners()]}
        for key, _, _, _, fee, owner in web.line_sheets():
            paid[owner] += fee * plan.amount(key)
        self.assertEqual(sum(books.trial().values()), 0)
        if fits(plan, row):
            due = {owner: books.balance(owner) - paid[owner] for owner in paid}
            self.assertEqual(due, dues(plan, row))

    def test_squared_whatever_was_posted_ahead(self):
        luck = random.Random(9)
        for web in [wide_web(), small_web(), *[web for web, _ in tiny_webs(20)]]:
            plans = [settled_plan(web), free_plan(web), random_plan(web, 1), random_plan(web, 2)]
            books = Books()
            for _ in range(12):
                plan, row = luck.choice(plans), luck.choice(some_rows(web))
                rows = posting(plan, row)
                books.square(luck.sample(rows, len(rows)))
                if luck.random() < 0.5:
                    books.next_day()
                self.assertEqual(books.keys_in_force(), list(plan.amounts()))
                self.check_books(books, plan, row)
                self.assertEqual(books.square(rows), (0, 0))

    def test_entries_with_nothing_are_entered(self):
        web = Web(Land(1, 10, [("quay", 0, None)]))
        plan = Plan(web, {("buy", "quay", 0): 3, ("free", "quay", 0): 3})
        row = Worths({QUAY: 0, ("quay", 1): 0})
        self.assertEqual(posting(plan, row), [
            (("buy", "quay", 0), 0, (("", 0), ("quay 0", 0))), (("free", "quay", 0), 0, (("", 0), ("quay 0", 0))),
        ])
        books = Books()
        books.square(posting(plan, row))
        self.assertEqual(books.trial(), {"": 0, "quay 0": 0})

    def test_later_webs(self):
        web = Web(wide_land(), given=[(("elm", 5), 3), (("bank", 8), -2)], since=4)
        plan, row = settled_plan(web), least_row(web)
        self.assertEqual(min(done for _, done, _ in posting(plan, row)), 5)
        ended = Web(small_land(), small_askings(), since=3)
        self.assertEqual(posting(Plan(ended, {}), Worths({})), [])

    def test_errors_in_order(self):
        web = small_web()
        plan, row = best_plan(web), least_row(web)
        worths = row.worths()
        for value in [Worths({}), Worths({**worths, ("far", 0): 0}), row.part(1), worths, *odd_values()]:
            self.raises(OtherStandings, [], lambda: posting(plan, value))
            self.raises(OtherStandings, [], lambda: line_entries(plan, value, None))
        for value in odd_values() + [("wait", "quay", 2), ("wait", "quay", True), ("work", "dug")]:
            if not web.has_line(value):
                self.raises(UnknownLine, [value], lambda: line_entries(plan, row, value))

    def test_told_lists_are_new(self):
        web = small_web()
        plan, row = best_plan(web), least_row(web)
        before = posting(plan, row), line_entries(plan, row, DIG)
        posting(plan, row).clear()
        line_entries(plan, row, DIG).clear()
        self.assertEqual((posting(plan, row), line_entries(plan, row, DIG)), before)


if __name__ == "__main__":
    unittest.main()
