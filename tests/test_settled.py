import unittest

from standworth.askings import Hire, Work
from standworth.best import best_gain, is_best
from standworth.lands import Land
from standworth.settled import settled_plan
from standworth.webs import Web
from tests.reference import has_ring_below_0, large_web, large_webs, tiny_webs
from tests.samples import small_askings, small_land, small_web, wide_land, wide_web


def wishes(plan):
    """What is to be the least, in its order, for the settled plan."""
    asked = [asking.key for asking in plan.web.askings()]
    others = [key for key in plan.web.line_keys() if key not in asked]
    return [-plan.amount(key) for key in asked] + [plan.amount(key) for key in others]


def costs_by_wishes(web):
    """Fees, with the wishes of the settled plan behind them in a number of their own each."""
    asked = [asking.key for asking in web.askings()]
    order = asked + [key for key in web.line_keys() if key not in asked]
    fees = {sheet[0]: sheet[4] for sheet in web.line_sheets()}
    costs = {}
    for at, key in enumerate(order):
        wish = 1000 ** (len(order) - at)
        costs[key] = fees[key] * 1000 ** (len(order) + 1) + (-wish if key in asked else wish)
    return costs


class SettledTest(unittest.TestCase):
    def test_tiny_webs_by_all_best_plans(self):
        several = 0
        for web, plans in tiny_webs(150):
            plan = settled_plan(web)
            self.assertTrue(plan == min(plans, key=wishes))
            self.assertTrue(plan.web == web)
            several += len(plans) > 2
        self.assertGreater(several, 15)

    def test_tiny_webs_with_few_prices(self):
        """Many plans are best where fees and prices are nearly all the same."""
        several = 0
        for web, plans in tiny_webs(120, yards=3, last=2, top=1, askings=6):
            self.assertTrue(settled_plan(web) == min(plans, key=wishes))
            several += len(plans) > 3
        self.assertGreater(several, 15)

    def test_large_webs(self):
        for web in [wide_web(), *large_webs(), large_web(2, price=2), large_web(3, price=1)]:
            plan = settled_plan(web)
            self.assertEqual(plan.gain, best_gain(web))
            self.assertIs(is_best(plan), True)
            self.assertFalse(has_ring_below_0(plan, costs_by_wishes(web)))

    def test_ranks_ahead_of_names(self):
        land = Land(1, 10, [("quay", 0, None)])

        def amounts(*ranks):
            works = [
                Work(name, "ann", ("quay", 0), ("quay", 1), 2, 5, rank=rank)
                for name, rank in zip(("dig", "fix", "mow"), ranks)
            ]
            plan = settled_plan(Web(land, works, given=[(("quay", 0), 3)]))
            return [plan.amount(("work", name)) for name in ("dig", "fix", "mow")]

        self.assertEqual(amounts(0, 0, 0), [2, 1, 0])
        self.assertEqual(amounts(1, 0, 0), [0, 2, 1])
        self.assertEqual(amounts(2, 1, 0), [0, 1, 2])
        self.assertEqual(amounts(9, 99, 10), [2, 0, 1])

    def test_a_lesser_rank_costs_no_gain(self):
        land = Land(1, 10, [("quay", 0, None)])
        first = Work("dig", "ann", ("quay", 0), ("quay", 1), 1, 4, rank=0)
        second = Work("fix", "bob", ("quay", 0), ("quay", 1), 1, 5, rank=50)
        plan = settled_plan(Web(land, [first, second], given=[(("quay", 0), 1)]))
        self.assertEqual((plan.amount(("work", "dig")), plan.amount(("work", "fix")), plan.gain), (0, 1, 5))

    def test_askings_with_the_greatest_amounts_even_for_nothing(self):
        land = Land(1, 5, [("quay", 0, None)])
        work = Work("dig", "ann", ("quay", 0), ("quay", 1), 3, 5)
        free = Hire("men", "bob", ("quay", 1), 4, 0)
        plan = settled_plan(Web(land, [work, free]))
        self.assertEqual(plan.amounts(), {
            ("buy", "quay", 0): 3, ("free", "quay", 1): 7, ("hire", "men"): 4, ("work", "dig"): 3,
        })

    def test_other_lines_with_the_least_amounts_in_their_order(self):
        land = Land(1, 5, [("quay", 0, None), ("hill", 0, None)], roads=[("quay", "hill", 1, 0), ("hill", "quay", 1, 0)])
        plan = settled_plan(Web(land, given=[(("quay", 0), 1), (("hill", 0), 2)]))
        self.assertEqual(plan.amounts(), {
            ("free", "quay", 1): 3, ("wait", "quay", 0): 1, ("walk", "hill", "quay", 0): 2,
        })
        plan = settled_plan(Web(land, given=[(("quay", 1), -1)]))
        self.assertEqual(plan.amounts(), {("buy", "quay", 1): 1})
        plan = settled_plan(Web(land, given=[(("quay", 1), -1), (("hill", 1), -1)]))
        self.assertEqual(plan.amounts(), {
            ("buy", "quay", 0): 1, ("buy", "quay", 1): 1, ("walk", "quay", "hill", 0): 1,
        })

    def test_webs_without_askings_and_without_lines(self):
        self.assertEqual(settled_plan(Web(wide_land())).amounts(), {})
        self.assertEqual(settled_plan(Web(small_land(), small_askings(), since=3)).amounts(), {})
        self.assertEqual(settled_plan(web=small_web()).gain, 8)

    def test_the_same_for_equal_webs(self):
        web = wide_web()
        other = Web(wide_land(), list(reversed(web.askings())), given=list(reversed(web.given())))
        plan = settled_plan(web)
        self.assertTrue(plan == settled_plan(other) and plan == settled_plan(web))
        plan.amounts().clear()
        self.assertTrue(plan == settled_plan(web))
        self.assertTrue(web == wide_web())

    def test_numbers_of_any_size(self):
        many = 10 ** 5000
        web = small_web().with_given(("quay", 0), many).with_given(("hill", 2), -2 * many)
        plan = settled_plan(web)
        self.assertTrue(plan.gain == best_gain(web))
        self.assertFalse(has_ring_below_0(plan, costs_by_wishes(web)))


if __name__ == "__main__":
    unittest.main()
