import random
import unittest

from standworth.askings import Hire, Work
from standworth.best import best_gain, best_plan, better_ring, is_best
from standworth.errors import (
    AboveTop, DuplicateName, InvalidAsking, InvalidNumber, NotBest, Over, TooMany, UnknownName, UnknownStanding,
)
from standworth.fitting import greatest_row, least_row
from standworth.gaps import gap_range
from standworth.lands import Land
from standworth.more import gains_by_crews, grown, one_less, one_more, shrunk
from standworth.webs import Web
from tests.reference import large_web, large_webs, some_asking, tiny_webs
from tests.samples import (
    Raising, is_one_of, odd_values, random_plan, small_askings, small_land, small_web, wide_land, wide_web,
)

QUAY = ("quay", 0)


def added_by_words(web, standing, most):
    gains = [best_gain(web.with_given(standing, many)) for many in range(most + 1)]
    return [gains[at + 1] - gains[at] for at in range(most)]


def lost_by_words(web, standing, most):
    gains = [best_gain(web.with_given(standing, -many)) for many in range(most + 1)]
    return [gains[at] - gains[at + 1] for at in range(most)]


def is_whole_number(value):
    return isinstance(value, int) and not isinstance(value, bool)


class OneMoreTest(Raising):
    def test_tiny_webs(self):
        for web, _ in tiny_webs(60):
            least, greatest = least_row(web), greatest_row(web)
            for standing in web.standings():
                more, less = list(one_more(web, standing, 5)), list(one_less(web, standing, 5))
                self.assertEqual(more, added_by_words(web, standing, 5))
                self.assertEqual(less, lost_by_words(web, standing, 5))
                self.assertEqual((more[0], less[0]), (least.worth(standing), greatest.worth(standing)))
                self.assertEqual((more, less), (sorted(more, reverse=True), sorted(less)))

    def test_large_webs(self):
        luck = random.Random(6)
        for web in [wide_web(), *large_webs()]:
            for standing in luck.sample(web.standings(), 3):
                more, less = list(one_more(web, standing)), list(one_less(web, standing))
                self.assertEqual((len(more), len(less)), (20, 20))
                self.assertEqual(more, added_by_words(web, standing, 20))
                self.assertEqual(less, lost_by_words(web, standing, 20))
                self.assertEqual((more, less), (sorted(more, reverse=True), sorted(less)))

    def test_crews_given_and_called_away(self):
        land = Land(1, 10, [("quay", 0, None)])
        work = Work("dig", "ann", QUAY, ("quay", 1), 2, 6)
        web = Web(land, [work])
        self.assertEqual(list(one_more(web, QUAY, 4)), [6, 6, 0, 0])
        self.assertEqual(list(one_less(web, QUAY, 4)), [10, 10, 10, 10])
        away = Web(land, [work], given=[(QUAY, -2)])
        self.assertEqual(list(one_more(away, QUAY, 5)), [10, 10, 6, 6, 0])
        given = Web(land, [work], given=[(QUAY, 3)])
        self.assertEqual(list(one_less(given, QUAY, 5)), [0, 6, 6, 10, 10])

    def test_how_many(self):
        web = small_web()
        for call in (one_more, one_less):
            self.assertEqual(list(call(web, QUAY, 0)), [])
            self.assertEqual(len(list(call(web, QUAY, 20))), 20)
            self.assertEqual(list(call(web, QUAY, 1)), list(call(web, QUAY))[:1])
            self.assertEqual(list(call(web=web, standing=QUAY, most=7)), list(call(web, QUAY))[:7])

    def test_they_are_generators(self):
        for call in (one_more, one_less):
            crews = call(small_web(), QUAY)
            self.assertIs(iter(crews), crews)
            told = list(call(small_web(), QUAY))
            other = call(small_web(), QUAY)
            self.assertEqual([next(crews), next(other), next(crews), next(other)], [told[0], told[0], told[1], told[1]])
            self.assertEqual(list(crews), told[2:])
            self.assertEqual(list(crews), [])

    def test_errors_come_with_the_first_item(self):
        web = small_web()
        for call in (one_more, one_less):
            for value in odd_values() + [(), ("quay", 3), ("quay", False), ("far", 0)]:
                if not is_one_of(value, web.standings()):
                    for most in (20, 0, None):
                        wrong = call(web, value, most)
                        self.raises(UnknownStanding, [value], lambda: next(wrong))
            for value in odd_values() + [21, -1, 10 ** 5000]:
                if not is_whole_number(value) or not 0 <= value <= 20:
                    wrong = call(web, QUAY, value)
                    with self.assertRaises(InvalidNumber) as caught:
                        next(wrong)
                    self.assertTrue(caught.exception.value == value)
            later = call(Web(small_land(), since=1), QUAY)
            self.raises(UnknownStanding, [QUAY], lambda: list(later))
            self.raises(UnknownStanding, [QUAY], lambda: list(call(Web(small_land(), since=3), QUAY, 0)))

    def test_webs_do_not_change(self):
        web = small_web()
        list(one_more(web, QUAY))
        list(one_less(web, QUAY))
        gains_by_crews(web, "dig", 9)
        self.assertTrue(web == small_web())

    def test_numbers_of_any_size(self):
        many = 10 ** 5000
        web = small_web().with_given(QUAY, many)
        self.assertEqual(list(one_more(web, QUAY, 3)), [0, 0, 0])
        self.assertEqual(list(one_less(web, QUAY, 3)), [0, 0, 0])
        self.assertEqual(list(one_less(small_web().with_given(QUAY, -many), QUAY, 3)), [10, 10, 10])


class GainsByCrewsTest(Raising):
    def by_words(self, web, name, most):
        asking, without = web.asking(name), web.without(name)
        others = [without.with_asking(asking.with_terms(crews, asking.price)) for crews in range(1, most + 1)]
        return [best_gain(without), *[best_gain(other) for other in others]]

    def check_gains(self, web, name, most):
        gains = gains_by_crews(web, name, most)
        self.assertIsInstance(gains, list)
        self.assertEqual(gains, self.by_words(web, name, most))
        steps = [gains[at + 1] - gains[at] for at in range(most)]
        self.assertEqual(steps, sorted(steps, reverse=True))
        self.assertTrue(all(step >= 0 for step in steps))

    def test_tiny_webs(self):
        for web, _ in tiny_webs(80):
            for asking in web.askings():
                self.check_gains(web, asking.name, 4)

    def test_large_webs(self):
        for web in [wide_web(), *large_webs()]:
            for asking in web.askings()[::6]:
                self.check_gains(web, asking.name, 20)

    def test_how_many(self):
        web = small_web()
        self.assertEqual(gains_by_crews(web, "dig", 0), [best_gain(web.without("dig"))])
        self.assertEqual(gains_by_crews(web=web, name="mow", most=1), [best_gain(web.without("mow")), best_gain(web)])
        self.assertEqual(len(gains_by_crews(web, "men", 20)), 21)
        self.assertEqual(gains_by_crews(web, "dig", 3)[3], best_gain(web))

    def test_errors(self):
        web = small_web()
        for value in odd_values() + ["di", "digg", ("dig",)]:
            for most in (3, 21, None):
                self.raises(UnknownName, [value], lambda: gains_by_crews(web, value, most))
        for value in odd_values() + [21, -1]:
            if not is_whole_number(value) or not 0 <= value <= 20:
                self.raises(InvalidNumber, [value], lambda: gains_by_crews(web, "dig", value))
        self.raises(UnknownName, ["dig"], lambda: gains_by_crews(Web(small_land(), small_askings(), since=1), "dig", 3))

    def test_told_lists_are_new(self):
        web = small_web()
        told = gains_by_crews(web, "dig", 3)
        kept = list(told)
        told.clear()
        self.assertEqual(gains_by_crews(web, "dig", 3), kept)


class GrownAndShrunkTest(Raising):
    def check_grown(self, plan, asking):
        amounts = plan.amounts()
        other = grown(plan, asking)
        self.assertTrue(other.web == plan.web.with_asking(asking))
        self.assertIs(is_best(other), True)
        for key in plan.web.line_keys():
            self.assertLessEqual(abs(other.amount(key) - plan.amount(key)), asking.crews)
        self.assertEqual(plan.amounts(), amounts)
        self.assertTrue(other == grown(plan, asking))
        return other

    def check_shrunk(self, plan, name):
        amounts, web = plan.amounts(), plan.web
        other = shrunk(plan, name)
        self.assertTrue(other.web == web.without(name))
        self.assertIs(is_best(other), True)
        for key in other.web.line_keys():
            self.assertLessEqual(abs(other.amount(key) - plan.amount(key)), plan.amount(web.asking(name).key))
        self.assertEqual(plan.amounts(), amounts)
        self.assertTrue(other == shrunk(plan, name))
        return other

    def test_all_best_plans_of_tiny_webs(self):
        luck = random.Random(7)
        for web, plans in tiny_webs(70):
            for plan in plans[:6]:
                for asking in web.askings():
                    self.check_shrunk(plan, asking.name)
                for _ in range(2):
                    asking = some_asking(luck, web.land, 20, crews=3, price=9)
                    if asking.begins >= web.since:
                        self.check_grown(plan, asking)

    def test_large_webs(self):
        luck = random.Random(3)
        for seed in range(4):
            web = large_web(seed, askings=20)
            plan = best_plan(web)
            for at in range(20, 24):
                plan = self.check_grown(plan, some_asking(luck, web.land, at, crews=99, price=999))
            self.assertEqual(len(plan.web.askings()), 24)
            for asking in luck.sample(plan.web.askings(), 8):
                plan = self.check_shrunk(plan, asking.name)

    def test_bounds_are_reached_one_by_one(self):
        land = Land(2, 10, [("quay", 0, None)])
        plan = best_plan(Web(land, given=[(QUAY, 5)]))
        work = Work("dig", "ann", QUAY, ("quay", 2), 3, 6)
        other = self.check_grown(plan, work)
        self.assertEqual(other.amount(("work", "dig")), 3)
        dearer = self.check_grown(other, Work("mow", "cyd", QUAY, ("quay", 1), 4, 9))
        self.assertEqual(dearer.amounts()[("work", "mow")], 4)
        self.assertEqual(dearer.amount(("work", "dig")), 1)
        back = self.check_shrunk(dearer, "mow")
        self.assertEqual(back.amount(("work", "dig")), 3)
        hired = self.check_grown(back, Hire("men", "bob", QUAY, 9, 0))
        self.assertEqual(hired.gain, 18)
        self.check_shrunk(hired, "men")
        self.assertEqual(shrunk(plan=hired, name="dig").gain, 0)
        self.assertEqual(grown(plan=plan, asking=work).gain, 18)

    def test_plans_that_are_not_best(self):
        for web in (small_web(), wide_web()):
            plan = random_plan(web, 3)
            for call in (grown, shrunk):
                for value in [None, "dig", web.askings()[0], 5, Hire("far", "bob", ("far", 0), 1, 99)]:
                    self.raises(NotBest, [better_ring(plan)], lambda: call(plan, value))

    def test_wrong_askings(self):
        plan = best_plan(small_web())
        for value in odd_values():
            if not isinstance(value, (Work, Hire)):
                self.raises(InvalidAsking, [3], lambda: grown(plan, value))
        self.raises(DuplicateName, ["dig"], lambda: grown(plan, Hire("dig", "bob", ("far", 0), 1, 99)))
        self.raises(UnknownStanding, [("far", 0)], lambda: grown(plan, Hire("boys", "bob", ("far", 0), 1, 99)))
        self.raises(UnknownStanding, [("quay", 3)], lambda: grown(plan, Work("fix", "bob", QUAY, ("quay", 3), 1, 9)))
        self.raises(AboveTop, ["boys"], lambda: grown(plan, Hire("boys", "bob", QUAY, 1, 11)))
        full = best_plan(wide_web())
        self.raises(TooMany, [24], lambda: grown(full, small_askings()[0]))
        self.raises(InvalidAsking, [24], lambda: grown(full, None))
        late = best_plan(Web(small_land(), since=1))
        self.raises(Over, [0], lambda: grown(late, small_askings()[0]))
        self.raises(AboveTop, ["boys"], lambda: grown(late, Hire("boys", "bob", QUAY, 1, 11)))
        self.assertEqual(grown(late, small_askings()[2]).gain, 0)
        bare = best_plan(Web(small_land(), since=3))
        self.raises(Over, [1], lambda: grown(bare, small_askings()[2]))

    def test_wrong_names(self):
        plan = best_plan(small_web())
        for value in odd_values() + ["di", "digg"]:
            self.raises(UnknownName, [value], lambda: shrunk(plan, value))
        late = best_plan(Web(small_land(), small_askings(), since=1))
        self.raises(UnknownName, ["dig"], lambda: shrunk(late, "dig"))


class MovesTest(unittest.TestCase):
    """What an asking, or a given crew, moves: worths and gaps."""

    def check_moved(self, before, behind):
        """No worth of the least row and none of the greatest one rises from one web to another."""
        self.assertTrue(least_row(behind).is_below(least_row(before)))
        self.assertTrue(greatest_row(behind).is_below(greatest_row(before)))

    def webs(self):
        tiny = [web for web, _ in tiny_webs(60)]
        return [web for web in [*tiny, small_web(), *large_webs()] if web.standings()]

    def test_hires(self):
        luck = random.Random(1)
        for web in self.webs():
            if len(web.askings()) == 24:
                web = web.without(web.askings()[0].name)
            standing = luck.choice(web.standings())
            hire = Hire("zz", "bob", standing, luck.randrange(1, 4), luck.randrange(web.land.top + 1))
            put = web.with_asking(hire)
            self.check_moved(web, put)
            more = web.with_asking(hire.with_terms(hire.crews + luck.randrange(1, 9), hire.price))
            self.check_moved(put, more)
            for asking in web.askings()[:6]:
                if isinstance(asking, Hire):
                    self.check_moved(web.without(asking.name), web)

    def test_given_crews(self):
        luck = random.Random(2)
        for web in self.webs():
            standing = luck.choice(web.standings())
            self.check_moved(web, web.with_given(standing, luck.randrange(1, 9)))
            self.check_moved(web.with_given(standing, -luck.randrange(1, 9)), web)

    def test_works(self):
        luck = random.Random(3)
        moved = 0
        for web in self.webs():
            if len(web.askings()) == 24:
                web = web.without(web.askings()[0].name)
            for _ in range(4):
                work = some_asking(luck, web.land, 25, crews=4, price=luck.choice([3, 9, 99]))
                if isinstance(work, Hire) or work.begins < web.since:
                    continue
                before = gap_range(web, work.start, work.end)
                behind = gap_range(web.with_asking(work), work.start, work.end)
                self.assertLessEqual(behind[0], before[0])
                self.assertLessEqual(behind[1], before[1])
                moved += behind != before
        self.assertGreater(moved, 20)

    def test_a_hire_lowers_worths(self):
        land = wide_land()
        web = Web(land, [Work("dig", "ann", ("elm", 0), ("elm", 1), 9, 999)])
        put = web.with_asking(Hire("men", "bob", ("elm", 0), 20, 1))
        self.assertEqual((least_row(web).worth(("elm", 0)), least_row(put).worth(("elm", 0))), (99, 1))
        self.assertEqual((greatest_row(web).worth(("elm", 0)), greatest_row(put).worth(("elm", 0))), (99, 1))


if __name__ == "__main__":
    unittest.main()
