import unittest

from standworth.askings import Hire, Work
from standworth.best import best_gain, is_best
from standworth.errors import UnknownLine
from standworth.fitting import fits
from standworth.lands import Land
from standworth.plans import Plan
from standworth.ranges import amount_range, fate, fate_witness, range_plans
from standworth.webs import Web
from standworth.worths import Worths
from tests.reference import fitting_rows, is_fitting_row, large_web, large_webs, least_cost, tiny_webs
from tests.samples import Raising, is_one_of, odd_values, small_askings, small_land, small_web, wide_web

CALLS = (amount_range, range_plans, fate, fate_witness)


def fate_by_words(sheet, amounts):
    if sheet[3] is not None and set(amounts) == {sheet[3]}:
        return "full"
    if set(amounts) == {0}:
        return "empty"
    return "steady" if len(set(amounts)) == 1 else "open"


def line_gap(row, sheet):
    return row.worth(sheet[2]) - row.worth(sheet[1])


class RangesTest(Raising):
    def check_plans(self, web, key):
        """The pair of plans with the least and the greatest amount; its amounts."""
        pair = range_plans(web, key)
        self.assertIsInstance(pair, tuple)
        self.assertEqual(len(pair), 2)
        for plan in pair:
            self.assertTrue(plan.web == web)
            self.assertIs(is_best(plan), True)
            self.assertEqual(plan.gain, best_gain(web))
        amounts = (pair[0].amount(key), pair[1].amount(key))
        self.assertEqual(amount_range(web, key), amounts)
        return amounts

    def check_witness(self, web, key, plan):
        sheet = web.line_sheet(key)
        told = fate_witness(web, key)
        self.assertIsInstance(told, tuple)
        word, witness = told
        self.assertEqual(fate(web, key), word)
        if word == "full":
            self.assertTrue(is_fitting_row(web, witness, plan))
            self.assertGreater(line_gap(witness, sheet), sheet[4])
        elif word == "empty":
            self.assertTrue(is_fitting_row(web, witness, plan))
            self.assertLess(line_gap(witness, sheet), sheet[4])
        elif word == "steady":
            self.assertIsNone(witness)
        else:
            self.assertIsInstance(witness, tuple)
            one, other = witness
            self.assertTrue(is_best(one) and is_best(other) and one.web == web and other.web == web)
            self.assertNotEqual(one.amount(key), other.amount(key))
        return word

    def test_tiny_webs_by_all_best_plans(self):
        words = []
        for sizes in ({"yards": 2, "last": 2, "top": 4}, {"yards": 3, "last": 1, "top": 1, "askings": 6}):
            for web, plans in tiny_webs(50, **sizes):
                for sheet in web.line_sheets():
                    amounts = sorted({plan.amount(sheet[0]) for plan in plans})
                    self.assertEqual(self.check_plans(web, sheet[0]), (amounts[0], amounts[-1]))
                    self.assertEqual(amounts, list(range(amounts[0], amounts[-1] + 1)))
                    word = self.check_witness(web, sheet[0], plans[0])
                    self.assertEqual(word, fate_by_words(sheet, amounts))
                    words.append((word, sheet[3] is None))
        for word in ("full", "empty", "steady", "open"):
            self.assertGreater(words.count((word, False)), 1, word)
        for word in ("empty", "steady", "open"):
            self.assertGreater(words.count((word, True)), 10, word)

    def test_witnesses_are_there_exactly_for_full_and_empty(self):
        for web, plans in tiny_webs(40, last=1, top=3):
            rows = fitting_rows(plans[0])
            for sheet in web.line_sheets():
                word = fate(web, sheet[0])
                gaps = [line_gap(row, sheet) for row in rows]
                self.assertEqual(word == "empty", min(gaps) < sheet[4])
                if sheet[3] is not None:
                    self.assertEqual(word == "full", max(gaps) > sheet[4])

    def test_large_webs(self):
        """No rest steps without cost make a least amount less, or a greatest one greater."""
        for web in [wide_web(), *list(large_webs())[1::2], large_web(1, price=3), large_web(2, price=1)]:
            for at, (key, start, end, room, fee, _) in enumerate(web.line_sheets()):
                if at % 9 == 0:
                    least, greatest = self.check_plans(web, key)
                    lesser, greater = range_plans(web, key)
                    beside = least_cost(lesser, start, end, without=key)
                    self.assertTrue(least == 0 or beside is None or beside > fee)
                    back = least_cost(greater, end, start, without=key)
                    self.assertTrue(greatest == room or back is None or back > -fee)
                    self.check_witness(web, key, greater)

    def test_fates_by_hand(self):
        land = Land(1, 10, [("quay", 1, 4)])
        askings = [
            Work("dig", "ann", ("quay", 0), ("quay", 1), 2, 9), Work("fix", "ann", ("quay", 0), ("quay", 1), 2, 5),
            Work("mow", "cyd", ("quay", 0), ("quay", 1), 2, 5), Hire("men", "bob", ("quay", 0), 3, 2),
        ]
        web = Web(land, askings)
        lines = [
            ("dig", "work", "full", (2, 2)), ("fix", "work", "open", (0, 1)), ("mow", "work", "open", (0, 1)),
            ("men", "hire", "full", (3, 3)),
        ]
        for name, kind, word, pair in lines:
            self.assertEqual((fate(web, (kind, name)), amount_range(web, (kind, name))), (word, pair))
        self.assertEqual(fate(web, ("wait", "quay", 0)), "empty")
        self.assertEqual(fate(web, ("buy", "quay", 0)), "empty")
        self.assertEqual((fate(web, ("free", "quay", 1)), amount_range(web, ("free", "quay", 1))), ("steady", (3, 3)))
        self.assertEqual(fate_witness(web, ("free", "quay", 1)), ("steady", None))
        self.assertEqual(fate(web.with_given(("quay", 0), 1), ("work", "fix")), "open")
        self.assertEqual(fate(web.with_given(("quay", 0), 2), ("work", "fix")), "open")
        self.assertEqual(amount_range(web.with_given(("quay", 0), 2), ("work", "fix")), (1, 2))
        self.assertEqual(fate(web.with_given(("quay", 0), 3), ("work", "fix")), "full")
        one = Web(land, askings[1:2], given=[(("quay", 0), 1)])
        self.assertEqual(fate(one, ("work", "fix")), "steady")
        self.assertEqual(amount_range(one, ("work", "fix")), (1, 1))
        self.assertEqual(fate(Web(land, [askings[3].with_terms(2, 10)]), ("hire", "men")), "empty")
        self.assertEqual(fate(Web(land, [askings[3].with_terms(2, 0)]), ("hire", "men")), "open")

    def test_full_ahead_of_steady_and_empty_ahead_of_steady(self):
        land = Land(1, 10, [("quay", 0, 1)])
        web = Web(land, given=[(("quay", 0), 1), (("quay", 1), -1)])
        self.assertEqual((amount_range(web, ("wait", "quay", 0)), fate(web, ("wait", "quay", 0))), ((1, 1), "full"))
        self.assertEqual((amount_range(web, ("buy", "quay", 1)), fate(web, ("buy", "quay", 1))), ((0, 0), "empty"))

    def test_no_room_is_no_amount(self):
        """An endless line is never full."""
        land = Land(0, 10, [("quay", 0, None)])
        web = Web(land, given=[(("quay", 0), 99)])
        self.assertEqual((amount_range(web, ("free", "quay", 0)), fate(web, ("free", "quay", 0))), ((99, 99), "steady"))

    def test_unknown_lines(self):
        web = small_web()
        others = odd_values() + [("buy", "quay", 3), ("buy", "quay", True), ("work", "men"), ["work", "dig"]]
        for value in others:
            if not is_one_of(value, web.line_keys()):
                for call in CALLS:
                    self.raises(UnknownLine, [value], lambda: call(web, value))
        late = Web(small_land(), small_askings(), since=3)
        for call in CALLS:
            self.raises(UnknownLine, [("work", "dig")], lambda: call(late, ("work", "dig")))
            self.raises(UnknownLine, [("buy", "quay", 0)], lambda: call(Web(small_land(), since=1), ("buy", "quay", 0)))

    def test_arguments_by_name_and_equal_calls(self):
        web = wide_web()
        for key in web.line_keys()[::25]:
            self.assertEqual(amount_range(web=web, key=key), amount_range(wide_web(), key))
            self.assertEqual(fate(web=web, key=key), fate(wide_web(), key))
            one, other = range_plans(web=web, key=key), range_plans(wide_web(), key)
            self.assertTrue(one[0] == other[0] and one[1] == other[1])
            shown, again = fate_witness(web=web, key=key), fate_witness(wide_web(), key)
            self.assertTrue(shown == again)
        self.assertTrue(web == wide_web())

    def test_told_plans_and_rows_keep_still(self):
        web = small_web()
        pair = range_plans(web, ("work", "dig"))
        kept = [plan.amounts() for plan in pair]
        for plan in pair:
            plan.amounts().clear()
        self.assertEqual([plan.amounts() for plan in pair], kept)
        word, row = fate_witness(web, ("work", "mow"))
        self.assertEqual(word, "full")
        row.worths().clear()
        self.assertTrue(row == fate_witness(web, ("work", "mow"))[1])
        self.assertIsInstance(row, Worths)
        self.assertIsInstance(pair[0], Plan)
        self.assertTrue(fits(pair[0], row))

    def test_numbers_of_any_size(self):
        many = 10 ** 5000
        web = Web(Land(1, 10, [("quay", 1, None)], roads=[])).with_given(("quay", 0), many)
        web = web.with_given(("quay", 1), -many)
        self.assertTrue(amount_range(web, ("wait", "quay", 0)) == (many, many))
        self.assertEqual(fate(web, ("wait", "quay", 0)), "steady")
        free = Web(Land(1, 10, [("quay", 0, None)])).with_given(("quay", 0), many)
        self.assertTrue(amount_range(free, ("wait", "quay", 0)) == (0, many))
        self.assertEqual(fate(free, ("wait", "quay", 0)), "open")


if __name__ == "__main__":
    unittest.main()
