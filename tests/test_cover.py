import random
import unittest

from standworth.cover import cover, cover_flow, flow_bound, loss, safe, worst_row
from standworth.errors import InvalidFlow, InvalidNumber, InvalidOwed, NoRow, NotFlow
from standworth.fitting import greatest_row, least_row, middle_row
from standworth.ties import Ties, ties_of
from standworth.worths import Worths
from tests.reference import fitting_rows, large_webs, tiny_webs
from tests.samples import Raising, odd_values, wide_web
from tests.test_ties import A, B, C, large_ties, rows_that_keep, tiny_ties


def loss_by_words(owed, row):
    return sum(many * row.worth(place) for place, many in owed.items())


def random_owed(luck, standings, most=5):
    return {place: luck.randrange(-most, most + 1) for place in luck.sample(standings, luck.randrange(len(standings) + 1))}


def kept_ties():
    """Tiny ties that some row keeps, with all such rows and some owed crews."""
    for seed in range(250):
        standings, top, told = tiny_ties(seed)
        rows = list(rows_that_keep(standings, top, told))
        if rows:
            yield Ties(standings, top, told), rows, random_owed(random.Random(seed), standings)


def broken_ties():
    return [
        Ties([A, B], 10, [(A, B, 2), (B, A, -3)]), Ties([A], 5, [(A, (), -6)]), Ties([A, B], 5, [((), B, -1)]),
    ]


class CoverTest(Raising):
    def is_flow(self, ties, owed, flow, bound):
        """A flow with a bound, by words, and by the package."""
        mosts = {(start, end): most for start, end, most in ties.ties()}
        self.assertEqual(list(flow), sorted(flow))
        self.assertLessEqual(set(flow), set(mosts))
        self.assertTrue(all(amount > 0 for amount in flow.values()))
        for place in ties.standings():
            comes = sum(amount for (_, end), amount in flow.items() if end == place)
            goes = sum(amount for (start, _), amount in flow.items() if start == place)
            self.assertEqual(comes - goes, owed.get(place, 0))
        self.assertEqual(sum(mosts[pair] * flow[pair] for pair in flow), bound)
        self.assertEqual(flow_bound(ties, owed, flow), bound)

    def check(self, ties, owed):
        """The cover, shown by a row and by a flow."""
        told = cover(ties, owed)
        row = worst_row(ties, owed)
        self.assertIs(ties.keeps(row), True)
        self.assertEqual((loss(owed, row), loss_by_words(owed, row)), (told, told))
        self.is_flow(ties, owed, cover_flow(ties, owed), told)
        for money in {max(0, told), max(0, told) + 1, max(0, told) + 10 ** 9}:
            word, flow = safe(ties, owed, money)
            self.assertEqual(word, "safe")
            bound = flow_bound(ties, owed, flow)
            self.assertLessEqual(bound, money)
            self.is_flow(ties, owed, flow, bound)
        for money in {told - 1, told // 2, 0}:
            if 0 <= money < told:
                word, row = safe(ties, owed, money)
                self.assertEqual(word, "short")
                self.assertTrue(ties.keeps(row) and loss(owed, row) > money)
        return told

    def test_the_example(self):
        ties = Ties([A, B], 10, [(A, B, 2)])
        owed = {A: -1, B: 1}
        self.assertEqual(self.check(ties, owed), 2)
        self.assertEqual(cover_flow(ties, owed), {(A, B): 1})
        self.assertEqual(safe(ties, owed, 2), ("safe", {(A, B): 1}))

    def test_all_rows_of_tiny_ties(self):
        below, above = 0, 0
        for ties, rows, owed in kept_ties():
            told = self.check(ties, owed)
            self.assertEqual(told, max(loss_by_words(owed, row) for row in rows))
            below, above = below + (told < 0), above + (told > 0)
        self.assertGreater(min(below, above), 5)

    def test_the_loss_is_at_most_the_bound_of_each_flow(self):
        luck = random.Random(1)
        for ties, rows, owed in kept_ties():
            flow = cover_flow(ties, owed)
            for _ in range(3):
                one, other = luck.choice(ties.ties())[:2]
                for pair in ((one, other), (other, one)):
                    if pair in [tie[:2] for tie in ties.ties()]:
                        flow[pair] = flow.get(pair, 0) + 1
                crews = {place: 0 for place in ties.standings()}
                for (start, end), amount in flow.items():
                    for place, by in ((start, -amount), (end, amount)):
                        if place:
                            crews[place] += by
                bound = flow_bound(ties, crews, flow)
                for row in rows:
                    self.assertLessEqual(loss(crews, row), bound)
                self.assertLessEqual(self.check(ties, crews), bound)

    def test_sums(self):
        luck = random.Random(2)
        for ties, _, one in kept_ties():
            other = random_owed(luck, ties.standings())
            both = {place: one.get(place, 0) + other.get(place, 0) for place in ties.standings()}
            self.assertLessEqual(cover(ties, both), cover(ties, one) + cover(ties, other))

    def test_large_ties(self):
        for seed in range(4):
            ties, row = large_ties(seed)
            luck = random.Random(seed)
            for most in (1, 99, 999999999):
                owed = {place: luck.randrange(-most, most + 1) for place in ties.standings()}
                self.assertGreaterEqual(self.check(ties, owed), loss(owed, row))

    def test_nothing_owed(self):
        for ties in (Ties([], 5), Ties([A, B], 5, [(A, B, -2)])):
            for owed in ({}, {place: 0 for place in ties.standings()}):
                self.assertEqual(self.check(ties, owed), 0)
                self.assertEqual(cover_flow(ties, owed), {})
                self.assertEqual(safe(ties, owed, 0), ("safe", {}))

    def test_covers_below_0(self):
        ties = Ties([A], 5, [(A, (), -2)])
        self.assertEqual(self.check(ties, {A: -3}), -6)
        self.assertEqual(safe(ties, {A: -3}, 0), ("safe", {(A, ()): 3}))
        self.assertEqual(self.check(ties, {A: 3}), 15)

    def test_owed_crews_in_any_order(self):
        ties, _ = large_ties(7)
        luck = random.Random(7)
        owed = {place: luck.randrange(-9, 10) for place in ties.standings()}
        mixed = {place: owed[place] for place in luck.sample(list(owed), len(owed))}
        self.assertEqual(cover_flow(ties, owed), cover_flow(ties, mixed))
        self.assertTrue(worst_row(ties, owed) == worst_row(ties, mixed))

    def test_large_numbers(self):
        ties = Ties([A, B], 10, [(A, B, 2)])
        many = 10 ** 9 * 99 ** 300
        self.assertTrue(cover(ties, {A: -many, B: many}) == 2 * many)
        self.assertTrue(safe(ties, {B: many}, 10 * many)[0] == "safe")
        self.assertTrue(safe(ties, {B: many}, 10 * many - 1)[0] == "short")

    def test_losses_of_webs_are_never_above_the_cover(self):
        luck = random.Random(3)
        for web, plans in tiny_webs(40, yards=2, last=1, top=3):
            ties = ties_of(web)
            owed = random_owed(luck, web.standings())
            told = self.check(ties, owed)
            for row in fitting_rows(plans[0]):
                self.assertLessEqual(loss(owed, row), told)
        for web in [*large_webs(), wide_web(), wide_web(since=9)]:
            ties = ties_of(web)
            for most in (3, 99):
                owed = random_owed(luck, web.standings(), most)
                told = self.check(ties, owed)
                for row in (least_row(web), greatest_row(web), middle_row(web)):
                    self.assertLessEqual(loss(owed, row), told)

    def test_by_name_and_what_is_handed_in_stays(self):
        ties = Ties([A, B], 10, [(A, B, 2)])
        owed, flow = {B: 1, A: -1}, {(A, B): 1}
        row = Worths({A: 3, B: 5})
        self.assertEqual([
            loss(owed=owed, row=row), cover(ties=ties, owed=owed), flow_bound(ties=ties, owed=owed, flow=flow),
            safe(ties=ties, owed=owed, money=1)[0], cover_flow(ties=ties, owed=owed),
            loss(owed, worst_row(ties=ties, owed=owed)),
        ], [2, 2, 2, "short", {(A, B): 1}, 2])
        cover_flow(ties, owed).clear()
        self.assertEqual((owed, list(owed), flow), ({A: -1, B: 1}, [B, A], {(A, B): 1}))


class ErrorsTest(Raising):
    def test_wrong_owed(self):
        ties = [Ties([A, B], 10, [(A, B, 2)]), *broken_ties()]
        row = Worths({A: 0, B: 1})
        wrong = [value for value in odd_values() if value != {}] + [
            {A: True}, {A: None}, {A: "1"}, {C: 0}, {A: 0, (): 0}, {("a", False): 1}, {A: [1]}, {"a": 1}, {None: 1},
            [(A, 1)], ((A, 1),), {A: 1, ("b", 1): 0},
        ]
        for value in wrong:
            self.raises(InvalidOwed, [], lambda: loss(value, row))
            for each in ties:
                self.raises(InvalidOwed, [], lambda: cover(each, value))
                self.raises(InvalidOwed, [], lambda: worst_row(each, value))
                self.raises(InvalidOwed, [], lambda: cover_flow(each, value))
                self.raises(InvalidOwed, [], lambda: flow_bound(each, value, None))
                self.raises(InvalidOwed, [], lambda: safe(each, value, None))
        self.raises(InvalidOwed, [], lambda: loss({B: 1}, Worths({A: 1})))
        self.assertEqual(loss({B: 4}, row), 4)

    def test_wrong_flows(self):
        ties = Ties([A, B], 10, [(A, B, 2)])
        wrong = [value for value in odd_values() if value != {}] + [
            {(A, B): True}, {(A, B): None}, {(A, B): -1}, {(A, B): "1"}, {(B, A): 0}, {(A, C): 1}, {(A, B, 2): 1},
            {(("a", False), B): 1}, {(A, ("b", False)): 1}, {(A, A): 1}, {((), ()): 1}, {A: 1}, {(A,): 1},
            [((A, B), 1)], {(A, B): 1, None: 0}, {"ab": 1},
        ]
        for value in wrong:
            self.raises(InvalidFlow, [], lambda: flow_bound(ties, {}, value))
        self.raises(InvalidFlow, [], lambda: flow_bound(ties, {A: 5, B: 5}, {(A, B): 1, (B, A): 1}))

    def test_the_first_standing_without_balance(self):
        ties = Ties([A, B, C], 10, [(A, B, 2)])
        self.raises(NotFlow, [A], lambda: flow_bound(ties, {C: 1, A: 1}, {}))
        self.raises(NotFlow, [A], lambda: flow_bound(ties, {B: 1}, {(A, B): 1}))
        self.raises(NotFlow, [B], lambda: flow_bound(ties, {}, {(A, B): 1, ((), A): 1}))
        self.raises(NotFlow, [C], lambda: flow_bound(ties, {B: 1, C: -1}, {(A, B): 1, ((), A): 1, (C, ()): 2}))
        self.assertEqual(flow_bound(ties, {B: 1, C: -2}, {(A, B): 1, ((), A): 1, (C, ()): 2}), 12)
        self.assertEqual(flow_bound(ties, {B: 0}, {(A, B): 0}), 0)
        self.assertEqual(flow_bound(ties, {}, {((), A): 7, (A, ()): 7}), 70)

    def test_bounds_where_no_row_keeps_the_ties(self):
        ties = broken_ties()[0]
        self.assertEqual(flow_bound(ties, {}, {(A, B): 4, (B, A): 4}), -4)

    def test_wrong_money(self):
        for ties in [Ties([A, B], 10, [(A, B, 2)]), *broken_ties()]:
            for value in odd_values() + [-1, -10 ** 9]:
                if isinstance(value, int) and not isinstance(value, bool) and value >= 0:
                    continue
                self.raises(InvalidNumber, [value], lambda: safe(ties, {A: 1}, value))

    def test_no_row(self):
        for ties in broken_ties():
            for call in (cover, worst_row, cover_flow, lambda ties, owed: safe(ties, owed, 0)):
                for owed in ({}, {A: 1}):
                    with self.assertRaises(NoRow) as caught:
                        call(ties, owed)
                    self.check_ring(ties, caught.exception.ring)

    def check_ring(self, ties, ring):
        starts, ends = [tie[0] for tie in ring], [tie[1] for tie in ring]
        self.assertTrue(all(tie in ties.ties() for tie in ring))
        self.assertEqual((ends, len(set(starts))), ([*starts[1:], starts[0]], len(starts)))
        self.assertLess(sum(tie[2] for tie in ring), 0)


if __name__ == "__main__":
    unittest.main()
