import random
import unittest

from standworth.askings import Hire, Work
from standworth.best import best_plan
from standworth.errors import InvalidRota, InvalidStanding, OtherStandings, OverRoom, Unbalanced
from standworth.fitting import greatest_row, least_row, middle_row
from standworth.lands import Land
from standworth.plans import Plan
from standworth.rotas import Rota, earnings, follows, parted, put_together, trail
from standworth.settled import settled_plan
from standworth.webs import Web
from standworth.worths import Worths
from tests.reference import large_webs, tiny_webs
from tests.samples import (
    Raising, is_one_of, odd_values, random_plan, small_askings, small_land, small_web, wide_web,
)

DIG, MEN, MOW, FREE = ("work", "dig"), ("hire", "men"), ("work", "mow"), ("free", "quay", 2)
QUAY = ("quay", 0)


def small_rota():
    return Rota([MEN, DIG, FREE])


class RotaTest(Raising):
    def test_a_rota(self):
        rota = Rota([MEN, DIG], first=(), last=("quay", 2))
        self.assertEqual((rota.lines(), rota.first, rota.last), ([MEN, DIG], (), ("quay", 2)))
        self.assertEqual((len(rota), repr(rota), bool(rota)), (2, "Rota(2 lines)", True))
        self.assertEqual(repr(Rota((MEN,))), "Rota(1 lines)")
        self.assertEqual((Rota((MEN,)).first, Rota((MEN,)).last), ((), ()))
        self.assertEqual(Rota(lines=[DIG], first=QUAY, last=("quay", 8)).last, ("quay", 8))
        long = Rota([MEN] * 400)
        self.assertEqual((len(long), repr(long)), (400, "Rota(400 lines)"))

    def test_wrong_lines(self):
        for value in odd_values():
            if isinstance(value, (list, tuple)) and value:
                continue
            self.raises(InvalidRota, [-1], lambda: Rota(value, first=5, last=5))
        for value in odd_values() + [["work", "dig"], ("buy", "quay", True), ("walk", "quay", "quay", 0)]:
            if not is_one_of(value, [("wait", "quay", 8), ("work", "none")]):
                self.raises(InvalidRota, [0], lambda: Rota([value]))
                self.raises(InvalidRota, [2], lambda: Rota((DIG, DIG, value, None), first=None))
        self.raises(InvalidRota, [0], lambda: Rota(MEN))

    def test_wrong_places(self):
        for value in odd_values() + [("quay", True), [], ["quay", 1], ("quay", 9)]:
            if not is_one_of(value, [(), ("quay", 1), ("far", 0)]):
                self.raises(InvalidStanding, [value], lambda: Rota([DIG], first=value, last=None))
                self.raises(InvalidStanding, [value], lambda: Rota([DIG], first=("quay", 1), last=value))

    def test_lines_are_copied_and_new(self):
        told = [MEN, DIG]
        rota = Rota(told)
        told.clear()
        rota.lines().append(FREE)
        self.assertEqual(rota.lines(), [MEN, DIG])

    def test_equality(self):
        rota = Rota([MEN, DIG], last=("quay", 2))
        self.assertTrue(rota == Rota((MEN, DIG), first=(), last=("quay", 2)))
        self.assertFalse(rota != Rota((MEN, DIG), last=("quay", 2)))
        others = [
            Rota([MEN, DIG]), Rota([MEN, DIG], first=QUAY, last=("quay", 2)), Rota([DIG, MEN], last=("quay", 2)),
            Rota([MEN], last=("quay", 2)), Rota([MEN, DIG, DIG], last=("quay", 2)),
        ]
        for other in [*others, *odd_values(), [MEN, DIG]]:
            self.assertIs(rota == other, False)


class FollowsTest(Raising):
    def test_rotas_that_follow(self):
        web = small_web()
        rotas = [
            small_rota(), Rota([DIG, FREE], first=QUAY), Rota([MEN, DIG], last=("quay", 2)),
            Rota([MEN], last=QUAY), Rota([DIG], first=QUAY, last=("quay", 2)), Rota([FREE], first=("quay", 2)),
            Rota([("buy", "hill", 1), MOW], last=("quay", 2)), Rota([("buy", "hill", 1), ("free", "hill", 1)]),
            Rota([("walk", "quay", "hill", 0), MOW, FREE], first=QUAY),
            Rota([("wait", "quay", 0), ("wait", "quay", 1)], first=QUAY, last=("quay", 2)),
        ]
        for rota in rotas:
            self.assertIs(follows(web, rota), True)
        self.assertIs(follows(web=web, rota=small_rota()), True)

    def test_rotas_that_do_not_follow(self):
        web = small_web()
        rotas = [
            Rota([MEN, DIG]), Rota([MEN, DIG, FREE], first=QUAY), Rota([MEN, DIG, FREE], last=("quay", 2)),
            Rota([MEN, FREE]), Rota([MEN, MEN], last=QUAY), Rota([DIG, MEN], first=QUAY, last=QUAY),
            Rota([FREE, MEN], first=("quay", 2), last=QUAY), Rota([MEN, ("free", "quay", 0), MEN], last=QUAY),
            Rota([("work", "none")], first=QUAY, last=("quay", 2)), Rota([MEN, DIG], last=("quay", 1)),
            Rota([("buy", "quay", 3)], last=("quay", 3)),
            Rota([("free", "quay", 0), ("buy", "quay", 0)], first=QUAY, last=QUAY),
            Rota([("buy", "quay", 0), ("free", "quay", 0), ("buy", "quay", 1), ("free", "quay", 1)]),
        ]
        for rota in rotas:
            self.assertIs(follows(web, rota), False, rota.lines())
        self.assertIs(follows(Web(small_land(), small_askings(), since=1), small_rota()), False)
        self.assertIs(follows(Web(small_land(), since=3), Rota([("buy", "quay", 0)], last=QUAY)), False)
        for value in odd_values():
            self.assertIs(follows(web, value), False)

    def test_given_crews_mean_nothing(self):
        for given in ([], [(QUAY, 5)], [(QUAY, -5)]):
            web = Web(small_land(), small_askings(), given=given)
            self.assertIs(follows(web, Rota([DIG, FREE], first=QUAY)), True)

    def test_earnings(self):
        web = small_web()
        self.assertEqual(earnings(web, small_rota()), -3 + 6)
        self.assertEqual(earnings(web, Rota([("walk", "quay", "hill", 0), MOW, FREE], first=QUAY)), -2 + 9)
        self.assertEqual(earnings(web=web, rota=Rota([("buy", "hill", 1)], last=("hill", 1))), -10)
        self.assertEqual(earnings(web, Rota([("free", "hill", 1)], first=("hill", 1))), 0)

    def test_errors(self):
        web = small_web()
        row = least_row(web)
        for value in [*odd_values(), Rota([MEN, DIG]), Rota([("buy", "quay", 3)], last=("quay", 3))]:
            self.raises(InvalidRota, [0], lambda: earnings(web, value))
            wrong = trail(web, value, row), trail(web, value, None)
            self.raises(InvalidRota, [0], lambda: next(wrong[0]))
            self.raises(InvalidRota, [0], lambda: next(wrong[1]))
        for value in [*odd_values(), Worths({}), row.part(1), Worths({**row.worths(), ("far", 0): 1}), row.worths()]:
            wrong = trail(web, small_rota(), value)
            self.raises(OtherStandings, [], lambda: next(wrong))


class TrailTest(unittest.TestCase):
    def test_a_trail(self):
        web = small_web()
        row = Worths({place: 4 + 3 * place[1] for place in web.standings()})
        self.assertEqual(list(trail(web, small_rota(), row)), [
            ((), 0, 0, 0), (QUAY, -3, 4, 1), (("quay", 2), 3, 10, 13), ((), 3, 0, 3),
        ])
        walk = Rota([("walk", "quay", "hill", 0), MOW], first=QUAY, last=("quay", 2))
        self.assertEqual(list(trail(web=web, rota=walk, row=row)), [
            (QUAY, 0, 4, 0), (("hill", 1), -2, 7, 1), (("quay", 2), 7, 10, 13),
        ])

    def test_cut_short(self):
        web = small_web()
        whole = list(trail(web, small_rota(), least_row(web)))
        for many in range(5):
            items = trail(web, small_rota(), least_row(web))
            told = [next(items) for _ in range(min(many, len(whole)))]
            self.assertEqual(told, whole[:many])
            items.close()
        self.assertEqual(list(trail(web, small_rota(), least_row(web))), whole)
        one, other = trail(web, small_rota(), least_row(web)), trail(web, small_rota(), least_row(web))
        self.assertEqual([next(one), next(one), next(other)], [whole[0], whole[1], whole[0]])
        self.assertEqual(list(one), whole[2:])

    def test_what_is_dealt(self):
        for web in [small_web(), wide_web(), *large_webs()]:
            plan = best_plan(web)
            rows = [least_row(web), greatest_row(web), middle_row(web)]
            rows.append(Worths({place: len(place[0]) * place[1] for place in web.standings()}))
            for rota in parted(plan):
                for row in rows:
                    told = list(trail(web, rota, row))
                    self.assertEqual(len(told), len(rota) + 1)
                    self.assertEqual([item[0] for item in told], places_of(web, rota))
                    self.assertEqual(told[-1][1], earnings(web, rota))
                    for at, (place, earned, worth, dealt) in enumerate(told):
                        self.assertEqual(worth, row.worth(place))
                        self.assertEqual(earned, -sum(web.line_sheet(key)[4] for key in rota.lines()[:at]))
                        self.assertEqual(dealt, earned + worth - row.worth(rota.first))
                    if row != rows[3]:
                        steps = [told[at + 1][3] - told[at][3] for at in range(len(rota))]
                        self.assertTrue(all(step >= 0 for step in steps))


def places_of(web, rota):
    return [rota.first, *[web.line_sheet(key)[2] for key in rota.lines()]]


def parted_by_words(plan):
    """The ways of the crews, where each crew has a number and at each standing tickets are handed out."""
    web = plan.web
    crews = []
    for key in web.lines_from(()):
        for _ in range(plan.amount(key)):
            crews.append({"first": (), "lines": [key], "last": ()})
    for standing in web.standings():
        for _ in range(max(0, web.given_at(standing))):
            crews.append({"first": standing, "lines": [], "last": ()})
    for hour in range(web.land.last + 1):
        for yard, _, _ in web.land.yards():
            standing = (yard, hour)
            if hour < web.since:
                continue
            here = []
            for number, crew in enumerate(crews):
                if crew["lines"] and web.line_sheet(crew["lines"][-1])[2] == standing:
                    here.append(((0, crew["lines"][-1]), number))
                elif not crew["lines"] and crew["first"] == standing:
                    here.append(((1,), number))
            tickets = []
            for key in web.lines_from(standing):
                tickets += [key] * plan.amount(key)
            tickets += [None] * max(0, -web.given_at(standing))
            assert len(tickets) == len(here)
            for (_, number), key in zip(sorted(here), tickets):
                if key is None:
                    crews[number]["last"] = standing
                else:
                    crews[number]["lines"].append(key)
    return [Rota(crew["lines"], first=crew["first"], last=crew["last"]) for crew in crews]


class PartedTest(Raising):
    def check(self, plan):
        web = plan.web
        rotas = parted(plan)
        self.assertIsInstance(rotas, list)
        self.assertTrue(all(isinstance(rota, Rota) for rota in rotas))
        self.assertTrue(all(follows(web, rota) for rota in rotas))
        given = sum(max(0, many) for _, many in web.given())
        called = sum(max(0, -many) for _, many in web.given())
        self.assertEqual(len(rotas), plan.begun + given)
        self.assertEqual([rota.first for rota in rotas if rota.first != ()], sorted(
            [standing for standing, many in web.given() for _ in range(many)]
        ))
        self.assertEqual(len([rota for rota in rotas if rota.last != ()]), called)
        self.assertEqual(sum(earnings(web, rota) for rota in rotas), plan.gain)
        self.assertTrue(put_together(web, rotas) == plan)
        return rotas

    def test_by_the_words(self):
        for at, (web, plans) in enumerate(tiny_webs(60)):
            others = plans[:4]
            if web.line_keys():
                others = [*others, random_plan(web, at, crews=9)]
            for plan in others:
                self.assertTrue(self.check(plan) == parted_by_words(plan))

    def test_large_webs(self):
        for web in [wide_web(), wide_web(since=4), *large_webs()]:
            for plan in (best_plan(web), random_plan(web, 3, crews=120)):
                self.assertTrue(self.check(plan) == parted_by_words(plan))

    def test_the_order_at_a_standing(self):
        """First those that came on lines, in the order of lines and by their numbers, then the given ones."""
        land = Land(2, 10, [("quay", 0, None), ("hill", 0, None)], roads=[("hill", "quay", 1, 0)])
        web = Web(land, [
            Work("dig", "ann", ("quay", 1), ("quay", 2), 2, 9), Hire("men", "bob", ("quay", 1), 1, 3),
        ], given=[(("hill", 0), 1), (("quay", 1), 1), (("quay", 2), -1)])
        plan = Plan(web, {
            ("buy", "quay", 1): 1, ("hire", "men"): 1, ("walk", "hill", "quay", 0): 1, ("free", "quay", 1): 1,
            ("wait", "quay", 1): 1, ("work", "dig"): 2, ("free", "quay", 2): 2,
        })
        self.assertEqual([(rota.lines(), rota.first, rota.last) for rota in parted(plan)], [
            ([("buy", "quay", 1), ("free", "quay", 1)], (), ()),
            ([("hire", "men"), ("wait", "quay", 1), ("free", "quay", 2)], (), ()),
            ([("walk", "hill", "quay", 0), ("work", "dig"), ("free", "quay", 2)], ("hill", 0), ()),
            ([("work", "dig")], ("quay", 1), ("quay", 2)),
        ])

    def test_crews_called_away_are_the_last_ones(self):
        land = Land(0, 10, [("quay", 0, None)])
        web = Web(land, [Hire("men", "bob", QUAY, 2, 3)], given=[(QUAY, -2)])
        plan = Plan(web, {("buy", "quay", 0): 1, ("hire", "men"): 2, ("free", "quay", 0): 1})
        self.assertEqual([(rota.lines(), rota.last) for rota in parted(plan=plan)], [
            ([("buy", "quay", 0), ("free", "quay", 0)], ()), ([("hire", "men")], QUAY), ([("hire", "men")], QUAY),
        ])

    def test_numbers_on_one_line(self):
        """Crews that came by one line stand by their numbers, whatever the order in which they took it."""
        land = Land(2, 10, [("quay", 0, None), ("hill", 0, None)], roads=[("hill", "quay", 1, 0)])
        web = Web(land, given=[(("hill", 0), 1), (QUAY, 1), (("quay", 2), -1)])
        plan = Plan(web, {
            ("walk", "hill", "quay", 0): 1, ("wait", "quay", 0): 1, ("wait", "quay", 1): 2, ("free", "quay", 2): 1,
        })
        self.assertTrue(parted(plan) == parted_by_words(plan))
        self.assertEqual([(rota.lines(), rota.first, rota.last) for rota in parted(plan)], [
            ([("walk", "hill", "quay", 0), ("wait", "quay", 1), ("free", "quay", 2)], ("hill", 0), ()),
            ([("wait", "quay", 0), ("wait", "quay", 1)], QUAY, ("quay", 2)),
        ])

    def test_many_crews(self):
        land = Land(1, 10, [("quay", 0, None)])
        web = Web(land, given=[(QUAY, 1000)])
        plan = Plan(web, {("buy", "quay", 0): 1000, ("wait", "quay", 0): 2000, ("free", "quay", 1): 2000})
        self.assertEqual(len(self.check(plan)), 2000)

    def test_no_crews(self):
        self.assertEqual(parted(Plan(Web(small_land()), {})), [])
        self.assertEqual(parted(Plan(Web(small_land(), since=3), {})), [])

    def test_plans_and_rotas_keep_still(self):
        plan = settled_plan(small_web())
        rotas = parted(plan)
        kept = [rota.lines() for rota in rotas]
        for rota in rotas:
            rota.lines().clear()
        rotas.clear()
        self.assertEqual([rota.lines() for rota in parted(plan)], kept)
        self.assertTrue(plan == settled_plan(small_web()))


class PutTogetherTest(Raising):
    def test_a_plan(self):
        web = Web(small_land(), small_askings(), given=[(QUAY, 1), (("quay", 2), -1)])
        rotas = [small_rota(), small_rota(), Rota([DIG], first=QUAY, last=("quay", 2))]
        plan = put_together(web, rotas)
        self.assertEqual(plan.amounts(), {FREE: 2, MEN: 2, DIG: 3})
        self.assertTrue(plan.web == web)
        self.assertTrue(put_together(web=web, rotas=tuple(rotas[::-1])) == plan)
        self.assertEqual(put_together(Web(small_land()), []).amounts(), {})

    def test_where_a_rota_ends_does_not_matter_to_a_plan(self):
        web = Web(small_land(), small_askings())
        pieces = [Rota([MEN], last=QUAY), Rota([DIG], first=QUAY, last=("quay", 2)), Rota([FREE], first=("quay", 2))]
        self.assertTrue(put_together(web, pieces) == put_together(web, [small_rota()]))

    def test_wrong_rotas(self):
        web = small_web()
        for value in [*odd_values(), Rota([MEN, DIG]), Rota([("buy", "quay", 3)], last=("quay", 3))]:
            self.raises(InvalidRota, [0], lambda: put_together(web, [value]))
            self.raises(InvalidRota, [4], lambda: put_together(web, (*[small_rota()] * 4, value, None)))
        for value in odd_values():
            if not isinstance(value, (list, tuple)):
                self.raises(InvalidRota, [-1], lambda: put_together(web, value))

    def test_wrong_plans(self):
        web = Web(small_land(), small_askings())
        self.raises(OverRoom, [MEN], lambda: put_together(web, [small_rota()] * 3))
        self.raises(OverRoom, [MEN], lambda: put_together(web, [small_rota()] * 4))
        self.raises(OverRoom, [DIG], lambda: put_together(web, [Rota([DIG], first=QUAY, last=("quay", 2))] * 4))
        short = [Rota([MEN, DIG], last=("quay", 2)), Rota([MEN], last=QUAY)]
        self.raises(Unbalanced, [QUAY], lambda: put_together(web, short))
        self.raises(Unbalanced, [("quay", 2)], lambda: put_together(web, [Rota([MEN, DIG], last=("quay", 2))]))
        self.raises(Unbalanced, [("hill", 0)], lambda: put_together(small_web(), []))
        self.assertEqual(len(put_together(web, [small_rota()] * 2)), 3)

    def test_random_plans(self):
        luck = random.Random(5)
        for seed in range(3):
            plan = random_plan(wide_web(), seed, crews=60)
            rotas = parted(plan)
            luck.shuffle(rotas)
            self.assertTrue(put_together(plan.web, rotas) == plan)


if __name__ == "__main__":
    unittest.main()
