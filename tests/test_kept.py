import random
import unittest

from standworth.askings import Hire, Work
from standworth.best import best_gain, is_best
from standworth.errors import (
    AboveTop, DuplicateName, InvalidAsking, InvalidGiven, InvalidName, InvalidNumber, TooMany, UnknownName,
    UnknownStanding,
)
from standworth.fitting import row_of
from standworth.kept import Kept
from standworth.lands import Land
from standworth.webs import Web
from standworth.words import HABITS
from tests.reference import large_web, some_asking, tiny_land
from tests.samples import Raising, is_one_of, odd_values, small_askings, small_land, wide_askings, wide_given, wide_land

QUAY = ("quay", 0)


def small_kept():
    kept = Kept(small_land(), given=[(("hill", 0), 1), (("quay", 1), -1)])
    for asking in small_askings():
        kept.put(asking)
    return kept


class KeptTest(Raising):
    def check(self, kept, web):
        """A kept plan is a best plan of the web that the deeds so far have made."""
        self.assertTrue(kept.as_web() == web)
        plan = kept.plan()
        self.assertTrue(plan.web == web)
        self.assertIs(is_best(plan), True)
        self.assertEqual((kept.gain, plan.gain), (best_gain(web), best_gain(web)))
        self.assertEqual((kept.many, len(kept)), (len(web.askings()), len(web.askings())))
        self.assertEqual(repr(kept), f"Kept({len(web.askings())} askings)")
        for habit in HABITS:
            self.assertTrue(kept.row(habit) == row_of(web, habit))
        self.assertTrue(kept.row() == row_of(web, "least"))

    def check_deed(self, kept, web, deed, what):
        """A deed that is refused changes nothing; the web behind the deed."""
        before = kept.plan()
        try:
            if what[0] == "put":
                other = web.with_asking(what[1])
            elif what[0] == "take off":
                other = web.without(what[1])
            else:
                other = web.with_given(what[1], what[2])
        except (DuplicateName, TooMany, UnknownName) as refused:
            with self.assertRaises(refused.__class__):
                deed()
            self.assertTrue(kept.plan() == before)
            other = web
        else:
            self.assertIsNone(deed())
        return other

    def random_deeds(self, luck, land, given, many, sizes):
        kept, web = Kept(land, given=given), Web(land, given=given)
        self.check(kept, web)
        for _ in range(many):
            names = [asking.name for asking in web.askings()]
            kind = luck.choice(["put", "put", "take off", "give"])
            if kind == "put":
                what = ("put", some_asking(luck, land, luck.randrange(26), **sizes))
                web = self.check_deed(kept, web, lambda: kept.put(what[1]), what)
            elif kind == "take off":
                what = ("take off", luck.choice([*names, "none"]))
                web = self.check_deed(kept, web, lambda: kept.take_off(what[1]), what)
            else:
                what = ("give", luck.choice(land.standings()), luck.randrange(-9, 10))
                web = self.check_deed(kept, web, lambda: kept.give(what[1], what[2]), what)
            self.check(kept, web)

    def test_many_deeds_on_small_lands(self):
        for seed in range(12):
            luck = random.Random(seed)
            land = tiny_land(luck, 1 + seed % 3, seed % 4, 5)
            self.random_deeds(luck, land, [(("quay", 0), seed - 5)], 30, {"crews": 3, "price": 7})

    def test_many_deeds_on_large_lands(self):
        for seed in range(2):
            luck = random.Random(seed)
            web = large_web(seed)
            self.random_deeds(luck, wide_land(), web.given(), 25, {"crews": 99, "price": 999})

    def test_plans_differ_little(self):
        luck = random.Random(11)
        kept = Kept(wide_land(), given=wide_given())
        for asking in wide_askings():
            before = kept.plan()
            kept.put(asking)
            for key in before.web.line_keys():
                self.assertLessEqual(abs(kept.plan().amount(key) - before.amount(key)), asking.crews)
        self.check(kept, Web(wide_land(), wide_askings(), given=wide_given()))
        for asking in luck.sample(wide_askings(), 12):
            before = kept.plan()
            kept.take_off(asking.name)
            for key in kept.as_web().line_keys():
                self.assertLessEqual(abs(kept.plan().amount(key) - before.amount(key)), before.amount(asking.key))

    def test_it_begins_without_askings(self):
        for given in ((), [], [(QUAY, 3), (("hill", 2), -2)]):
            kept = Kept(small_land(), given=given)
            self.check(kept, Web(small_land(), given=given))
            self.assertEqual((kept.many, len(kept), repr(kept), bool(kept)), (0, 0, "Kept(0 askings)", True))
        self.assertEqual(Kept(land=small_land()).gain, 0)

    def test_made_as_a_web(self):
        land = small_land()
        wrong = [
            (None, -1), ({}, -1), ("", -1), ([None], 0), ([(QUAY, 1), (QUAY, 2)], 1), ([(QUAY, True)], 0),
            ([(QUAY, 1), (("quay", 3), 1)], 1), ([[QUAY, 1]], 0), (((QUAY, None),), 0),
        ]
        for given, at in wrong:
            self.raises(InvalidGiven, [at], lambda: Kept(land, given=given))
        for value in odd_values():
            if not is_one_of(value, [[], ()]):
                with self.assertRaises(InvalidGiven):
                    Kept(land, given=value)
        self.assertEqual(Kept(land, given=[(QUAY, 100), (("quay", 1), -999999999)]).as_web().given_at(QUAY), 100)
        told = [(QUAY, 3)]
        kept = Kept(land, given=told)
        told.clear()
        self.assertEqual(kept.as_web().given(), [(QUAY, 3)])

    def refuses(self, kept, error, told, call):
        before = kept.plan()
        self.raises(error, told, call)
        self.assertTrue(kept.plan() == before)
        self.assertEqual(kept.gain, before.gain)

    def test_wrong_askings(self):
        kept = small_kept()
        for value in odd_values():
            if not isinstance(value, (Work, Hire)):
                self.refuses(kept, InvalidAsking, [3], lambda: kept.put(value))
        self.refuses(kept, DuplicateName, ["dig"], lambda: kept.put(Hire("dig", "bob", ("far", 0), 1, 99)))
        self.refuses(kept, UnknownStanding, [("far", 0)], lambda: kept.put(Hire("boys", "bob", ("far", 0), 1, 99)))
        self.refuses(kept, AboveTop, ["boys"], lambda: kept.put(Hire("boys", "bob", QUAY, 1, 11)))
        full = Kept(wide_land())
        for asking in wide_askings():
            full.put(asking=asking)
        self.refuses(full, TooMany, [24], lambda: full.put(wide_askings()[0]))
        self.refuses(full, InvalidAsking, [24], lambda: full.put("dig"))

    def test_wrong_names(self):
        kept = small_kept()
        for value in odd_values() + ["di", ("dig",), ["dig"]]:
            self.refuses(kept, UnknownName, [value], lambda: kept.take_off(value))
        kept.take_off(name="dig")
        self.refuses(kept, UnknownName, ["dig"], lambda: kept.take_off("dig"))

    def test_wrong_given_crews(self):
        kept = small_kept()
        for value in odd_values() + [(), ("quay", 3), ("quay", True)]:
            if not is_one_of(value, kept.as_web().standings()):
                self.refuses(kept, UnknownStanding, [value], lambda: kept.give(value, 100))
        for value in odd_values() + [100, -100, 999999999]:
            if not isinstance(value, int) or isinstance(value, bool) or not -99 <= value <= 99:
                self.refuses(kept, InvalidNumber, [value], lambda: kept.give(QUAY, value))
        web = kept.as_web()
        for many in (99, 99, -99, -99, -99, -1, 0, 1):
            self.assertIsNone(kept.give(standing=QUAY, many=many))
            web = web.with_given(QUAY, many)
            self.check(kept, web)
        self.assertEqual(kept.as_web().given_at(QUAY), -99)

    def test_habits(self):
        kept = small_kept()
        for value in odd_values() + ["Least", ["least"], ("least",)]:
            self.raises(InvalidName, [value], lambda: kept.row(value))
        self.assertTrue(kept.row(habit="greatest") == row_of(kept.as_web(), "greatest"))

    def test_twins_share_nothing(self):
        kept = small_kept()
        twin = kept.twin()
        self.assertIsInstance(twin, Kept)
        self.assertTrue(twin.plan() == kept.plan())
        before = kept.plan()
        twin.take_off("dig")
        twin.give(QUAY, 5)
        self.assertTrue(kept.plan() == before)
        self.check(kept, Web(small_land(), small_askings(), given=[(("hill", 0), 1), (("quay", 1), -1)]))
        self.check(twin, kept.as_web().without("dig").with_given(QUAY, 5))
        behind = twin.plan()
        kept.put(Hire("boys", "bob", QUAY, 4, 1))
        self.assertTrue(twin.plan() == behind)
        self.assertEqual((len(twin), len(kept)), (2, 4))

    def test_a_twin_has_the_same_plan_also_behind_the_same_deeds(self):
        kept = Kept(wide_land(), given=wide_given())
        for asking in wide_askings(12):
            kept.put(asking)
        kept.take_off(wide_askings()[3].name)
        twin = kept.twin()
        for each in (kept, twin):
            for asking in wide_askings()[12:]:
                each.put(asking)
            each.give(("elm", 2), -3)
        self.assertTrue(kept.plan() == twin.plan())

    def test_told_plans_keep_still(self):
        kept = small_kept()
        plan, row, web = kept.plan(), kept.row(), kept.as_web()
        amounts, worths = plan.amounts(), row.worths()
        kept.take_off("mow")
        kept.give(QUAY, 9)
        plan.amounts().clear()
        self.assertEqual((plan.amounts(), row.worths()), (amounts, worths))
        self.assertEqual([asking.name for asking in web.askings()], ["men", "mow", "dig"])
        self.assertEqual(kept.as_web().given_at(QUAY), 9)

    def test_properties_are_not_assigned(self):
        kept = small_kept()
        for name in ("gain", "many"):
            with self.assertRaises(AttributeError):
                setattr(kept, name, 5)

    def test_gains_by_hand(self):
        kept = Kept(Land(1, 10, [("quay", 0, None)]))
        kept.put(Work("dig", "ann", QUAY, ("quay", 1), 1, 6))
        gains = [kept.gain]
        kept.put(Hire("men", "bob", QUAY, 1, 3))
        gains.append(kept.gain)
        kept.give(QUAY, 1)
        gains.append(kept.gain)
        kept.give(QUAY, -2)
        gains.append(kept.gain)
        kept.take_off("dig")
        gains.append(kept.gain)
        self.assertEqual(gains, [0, 3, 6, -3, -3])


if __name__ == "__main__":
    unittest.main()
