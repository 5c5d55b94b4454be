import random
import unittest

from standworth.askings import Hire, Work
from standworth.best import best_gain, best_plan, is_best
from standworth.errors import InvalidSeconds, InvalidWorths
from standworth.lands import Land
from standworth.plans import Plan, turned
from standworth.webs import Web
from standworth.wishes import fewest_crews, pair_misfit, pair_row, second_plan, second_sum
from tests.reference import all_rings, has_ring_below_0, large_web, large_webs, tiny_webs
from tests.samples import Raising, odd_values, random_plan, small_askings, small_land, small_web, wide_web

QUAY = ("quay", 0)


def some_seconds(luck, web, most):
    return {key: luck.randrange(most + 1) for key in web.line_keys() if luck.random() < 0.7}


def sum_by_words(plan, seconds):
    return sum(plan.amount(key) * seconds.get(key, 0) for key in plan.web.line_keys())


def pair_misfits_by_words(plan, seconds, pairs):
    found = []
    told = {(): (0, 0), **pairs}
    for key, start, end, room, fee, _ in plan.web.line_sheets():
        between = (told[end][0] - told[start][0], told[end][1] - told[start][1])
        pair = (fee, seconds.get(key, 0))
        if (between > pair and plan.amount(key) != room) or (between < pair and plan.amount(key) != 0):
            found.append(key)
    return found


def paired_costs(web, seconds):
    return {sheet[0]: sheet[4] * 10 ** 9 + seconds.get(sheet[0], 0) for sheet in web.line_sheets()}


def wrong_seconds(web):
    """Values that are no second fees of a web."""
    key = ("buy", "quay", 0)
    wrong = [value for value in odd_values() if value != {}]
    wrong += [{key: value} for value in (-1, 100, True, False, None, "1", [1], (1,), 10 ** 5000)]
    wrong += [{other: 1} for other in (("buy", "quay", 3), ("buy", "quay", True), ("work", "none"), (), None, "buy", 5)]
    wrong += [{key: 1, ("buy", "quay", 3): 1}, {("work", "none"): 1, key: 1}, {key: 1, ("free", "quay", 0): 100}]
    return wrong + [[(key, 1)], web]


class SecondsTest(Raising):
    def test_second_sums(self):
        luck = random.Random(1)
        for web in (small_web(), wide_web()):
            for seed in range(5):
                plan = random_plan(web, seed)
                for most in (0, 9, 99):
                    seconds = some_seconds(luck, web, most)
                    self.assertEqual(second_sum(plan, seconds), sum_by_words(plan, seconds))
                self.assertEqual(second_sum(plan, {}), 0)
                self.assertEqual(second_sum(plan=plan, seconds={("buy", "quay" if web == small_web() else "elm", 0): 99}),
                                 99 * plan.amount(("buy", "quay" if web == small_web() else "elm", 0)))

    def test_tiny_webs_by_all_best_plans(self):
        luck = random.Random(2)
        several = 0
        for sizes in ({"top": 4}, {"yards": 3, "last": 1, "top": 1, "askings": 6}):
            for web, plans in tiny_webs(60, **sizes):
                for most in (0, 1, 99):
                    seconds = some_seconds(luck, web, most)
                    least = min(sum_by_words(plan, seconds) for plan in plans)
                    found = second_plan(web, seconds)
                    self.assertTrue(any(found == plan for plan in plans))
                    self.assertEqual(second_sum(found, seconds), least)
                    several += len({sum_by_words(plan, seconds) for plan in plans}) > 1
                    self.check_row(web, plans, seconds, least)
                self.assertEqual(fewest_crews(web), min(plan.begun for plan in plans))
        self.assertGreater(several, 40)

    def check_row(self, web, plans, seconds, least):
        pairs = pair_row(web, seconds)
        self.assertEqual(list(pairs), web.standings())
        for pair in pairs.values():
            self.assertIsInstance(pair, tuple)
            self.assertEqual([isinstance(number, int) for number in pair], [True, True])
        for plan in plans:
            misfit = pair_misfit(plan, seconds, pairs)
            self.assertEqual(misfit is None, sum_by_words(plan, seconds) == least)
            misfits = pair_misfits_by_words(plan, seconds, pairs)
            self.assertEqual(misfit, misfits[0] if misfits else None)
        for ring in all_rings(plans[0])[:6]:
            other = turned(plans[0], ring)
            right = other.gain == plans[0].gain and sum_by_words(other, seconds) == least
            self.assertEqual(pair_misfit(other, seconds, pairs) is None, right)

    def test_large_webs(self):
        luck = random.Random(3)
        for web in [wide_web(), *large_webs(), large_web(1, price=3), large_web(2, price=1)]:
            for most in (3, 99):
                seconds = some_seconds(luck, web, most)
                plan = second_plan(web, seconds)
                self.assertTrue(plan.web == web)
                self.assertEqual(plan.gain, best_gain(web))
                self.assertFalse(has_ring_below_0(plan, paired_costs(web, seconds)))
                pairs = pair_row(web, seconds)
                self.assertIsNone(pair_misfit(plan, seconds, pairs))
                self.assertEqual(pair_misfits_by_words(plan, seconds, pairs), [])
                self.assertIsNotNone(pair_misfit(random_plan(web, 1), seconds, pairs))
                first = best_plan(web)
                self.assertLessEqual(second_sum(plan, seconds), second_sum(first, seconds))
                self.assertEqual(
                    pair_misfit(first, seconds, pairs) is None, second_sum(first, seconds) == second_sum(plan, seconds)
                )
            crews = fewest_crews(web)
            begun = second_plan(web, {key: 1 for key in web.lines_from(())})
            self.assertEqual((begun.begun, begun.gain), (crews, best_gain(web)))
            self.assertLessEqual(crews, best_plan(web).begun)

    def test_seconds_of_0_and_of_99(self):
        land = Land(1, 10, [("quay", 0, None)])
        works = [Work("dig", "ann", QUAY, ("quay", 1), 1, 6), Work("fix", "ann", QUAY, ("quay", 1), 1, 6)]
        web = Web(land, works, given=[(QUAY, 1)])
        for name, other in (("dig", "fix"), ("fix", "dig")):
            for seconds in ({("work", name): 99}, {("work", name): 1}, {("work", name): 99, ("work", other): 98}):
                plan = second_plan(web, seconds)
                self.assertEqual((plan.amount(("work", name)), plan.amount(("work", other)), plan.gain), (0, 1, 6))
            plan = second_plan(web, {("work", name): 0, ("work", other): 0})
            self.assertEqual(plan.amount(("work", name)) + plan.amount(("work", other)), 1)

    def test_gain_ahead_of_second_sums(self):
        land = Land(1, 999, [("quay", 0, None)])
        web = Web(land, [Work("dig", "ann", QUAY, ("quay", 1), 9, 1)], given=[(QUAY, 9)])
        seconds = {("work", "dig"): 99, ("free", "quay", 1): 99}
        plan = second_plan(web=web, seconds=seconds)
        self.assertEqual((plan.gain, second_sum(plan, seconds)), (9, 9 * 198))
        self.assertEqual(second_plan(web, {("work", "dig"): 0}).gain, 9)

    def test_fewest_crews(self):
        land = Land(1, 5, [("quay", 0, None)])
        web = Web(land, [Hire("men", "bob", QUAY, 4, 0), Work("dig", "ann", QUAY, ("quay", 1), 3, 5)])
        self.assertEqual(fewest_crews(web), 3)
        self.assertEqual(fewest_crews(web.without("men")), 0)
        self.assertEqual(fewest_crews(web.with_given(("quay", 1), -2)), 3)
        self.assertEqual(fewest_crews(web=web.with_given(("quay", 1), -5)), 5)
        self.assertEqual(fewest_crews(Web(small_land(), small_askings(), since=3)), 0)

    def test_wrong_seconds(self):
        web = small_web()
        plan = best_plan(web)
        pairs = pair_row(web, {})
        for value in wrong_seconds(web):
            for call in (second_plan, pair_row):
                self.raises(InvalidSeconds, [], lambda: call(web, value))
            self.raises(InvalidSeconds, [], lambda: second_sum(plan, value))
            self.raises(InvalidSeconds, [], lambda: pair_misfit(plan, value, pairs))
            self.raises(InvalidSeconds, [], lambda: pair_misfit(plan, value, None))
        late = Web(small_land(), small_askings(), since=3)
        self.raises(InvalidSeconds, [], lambda: second_plan(late, {("work", "dig"): 1}))
        self.assertEqual(second_plan(late, {}).amounts(), {})
        self.assertEqual(pair_row(late, {}), {})
        self.assertIsNone(pair_misfit(Plan(late, {}), {}, {}))

    def test_arguments_do_not_change_and_dicts_are_new(self):
        web = small_web()
        seconds = {("work", "dig"): 9, ("free", "quay", 2): 1}
        kept = dict(seconds)
        pairs = pair_row(web, seconds)
        again = dict(pairs)
        second_plan(web, seconds).amounts().clear()
        pairs.clear()
        self.assertEqual(seconds, kept)
        self.assertEqual(pair_row(web, seconds), again)
        self.assertTrue(second_plan(web, seconds) == second_plan(small_web(), kept))
        backward = dict(reversed(list(seconds.items())))
        self.assertTrue(second_plan(web, seconds) == second_plan(web, backward))
        self.assertEqual(pair_row(web, backward), again)
        self.assertTrue(web == small_web())

    def test_numbers_of_any_size(self):
        many = 10 ** 5000
        web = small_web().with_given(QUAY, many).with_given(("hill", 2), -2 * many)
        seconds = {("buy", "hill", 2): 99, ("free", "quay", 0): 99, ("work", "mow"): 99}
        plan = second_plan(web, seconds)
        self.assertTrue(plan.gain == best_gain(web))
        self.assertTrue(second_sum(plan, seconds) < 99 * 2 * many)
        self.assertIs(is_best(plan), True)
        self.assertIsNone(pair_misfit(plan, seconds, pair_row(web, seconds)))


class PairMisfitTest(Raising):
    def test_each_kind_of_misfit(self):
        land = Land(0, 10, [("quay", 0, None)])
        web = Web(land, [Hire("men", "bob", QUAY, 2, 3)], given=[(QUAY, -1)])
        one = Plan(web, {("hire", "men"): 1})
        two = Plan(web, {("hire", "men"): 2, ("free", "quay", 0): 1})
        bought = Plan(web, {("buy", "quay", 0): 1})
        seconds = {("hire", "men"): 7, ("buy", "quay", 0): 5, ("free", "quay", 0): 2}
        cases = [
            (one, (3, 7), None), (one, (3, 6), ("hire", "men")), (one, (3, 8), ("hire", "men")),
            (one, (2, 99), ("hire", "men")), (one, (4, -99), ("hire", "men")),
            (two, (3, 8), ("free", "quay", 0)), (two, (0, -2), ("hire", "men")), (two, (0, -3), ("free", "quay", 0)),
            (one, (0, -3), ("free", "quay", 0)), (one, (0, -2), ("hire", "men")), (one, (10, 6), ("buy", "quay", 0)),
            (one, (10, 5), ("hire", "men")), (bought, (10, 5), ("hire", "men")), (bought, (10, 4), ("buy", "quay", 0)),
            (bought, (11, -5), ("buy", "quay", 0)),
        ]
        for plan, pair, key in cases:
            self.assertEqual(pair_misfit(plan, seconds, {QUAY: pair}), key, (plan.amounts(), pair))
            self.assertEqual(pair_misfit(plan=plan, seconds=seconds, pairs={QUAY: pair}), key)
        self.assertEqual(pair_misfit(one, {}, {QUAY: (3, 0)}), None)
        self.assertEqual(pair_misfit(one, {}, {QUAY: (3, 1)}), ("hire", "men"))

    def test_wrong_pairs(self):
        web = small_web()
        plan = best_plan(web)
        pairs = pair_row(web, {})
        wrong = [value for value in odd_values()]
        for value in [None, 5, (), (1,), (1, 2, 3), [1, 2], (1, True), (False, 1), ("1", 2), (1, None), ((1, 2), 3)]:
            wrong.append({**pairs, QUAY: value})
        short = {place: pairs[place] for place in list(pairs)[1:]}
        wrong += [short, {**pairs, ("quay", 3): (0, 0)}, {**pairs, (): (0, 0)}, {**short, ("far", 0): (0, 0)}]
        wrong += [{**short, ("hill", False): (0, 0)}, {**pairs, None: (0, 0)}, {"quay": (0, 0)}, list(pairs.items())]
        for value in wrong:
            self.raises(InvalidWorths, [], lambda: pair_misfit(plan, {}, value))
        backward = dict(reversed(list(pairs.items())))
        self.assertIsNone(pair_misfit(plan, {}, backward))

    def test_random_rows_of_pairs(self):
        luck = random.Random(4)
        for web in (small_web(), wide_web(since=5)):
            plan = best_plan(web)
            for _ in range(60):
                seconds = some_seconds(luck, web, 3)
                pairs = {
                    place: (pair[0] + luck.choice([0, 0, 0, 0, 1, -1]), pair[1] + luck.randrange(-1, 2))
                    for place, pair in pair_row(web, seconds).items()
                }
                misfits = pair_misfits_by_words(plan, seconds, pairs)
                self.assertEqual(pair_misfit(plan, seconds, pairs), misfits[0] if misfits else None)


if __name__ == "__main__":
    unittest.main()
