import random
import unittest
from itertools import product

from standworth.errors import InvalidNumber, InvalidStanding, InvalidTie, NoRow, OtherStandings, TooMany
from standworth.fitting import greatest_row, least_row, middle_row
from standworth.gaps import gap_range
from standworth.lands import Land
from standworth.ties import Ties, ties_of
from standworth.webs import Web
from standworth.worths import Worths, joined, met
from tests.reference import fitting_rows, large_webs, tiny_webs
from tests.samples import Raising, is_one_of, odd_values, small_land, small_web, wide_web

A, B, C = ("a", 0), ("b", 0), ("c", 3)


def breaks_no_tie(worths, ties):
    """Whether worths keep ties, tie by tie."""
    worths = {(): 0, **worths}
    return all(worths[end] - worths[start] <= most for start, end, most in ties)


def all_ties(standings, top, told):
    """The told ties and those with home, before any counts more than another."""
    return [*told, *[((), place, top) for place in standings], *[(place, (), 0) for place in standings]]


def tiny_ties(seed):
    """The standings, the top and the ties of something small enough to try all rows."""
    luck = random.Random(seed)
    standings = [A, B, C][:luck.randrange(1, 4)]
    top = luck.randrange(1, 7)
    places = [(), *standings]
    told = [(*luck.sample(places, 2), luck.randrange(-3, 7)) for _ in range(luck.randrange(6))]
    return standings, top, told


def rows_that_keep(standings, top, told):
    ties = all_ties(standings, top, told)
    for worths in product(range(top + 1), repeat=len(standings)):
        if breaks_no_tie(dict(zip(standings, worths)), ties):
            yield Worths(dict(zip(standings, worths)))


def many_standings(many):
    return [(name, hour) for name in ("ab", "cd", "ef", "gh", "ij", "kl", "mn") for hour in range(9)][:many]


def large_ties(seed, many=60, ties=200):
    luck = random.Random(seed)
    standings = luck.sample(many_standings(63), many)
    worths = {(): 0, **{place: luck.randrange(1000) for place in standings}}
    told = []
    for _ in range(ties):
        start, end = luck.sample(sorted(worths), 2)
        most = min(999, worths[end] - worths[start] + luck.choice([0, 0, 1, 50]))
        told.append((start, end, max(-999, most)))
    return Ties(standings, 999, told), Worths({place: worths[place] for place in standings})


class MakingTest(Raising):
    def test_by_hand(self):
        ties = Ties([B, A], 10, [(A, B, 2), (B, A, 5), (A, B, 3), ((), A, 12), (B, (), -1), (A, (), 4)])
        self.assertEqual(ties.standings(), [A, B])
        self.assertEqual(ties.top, 10)
        self.assertEqual(ties.ties(), [
            ((), A, 10), ((), B, 10), (A, (), 0), (A, B, 2), (B, (), -1), (B, A, 5),
        ])
        self.assertEqual((len(ties), repr(ties), bool(ties)), (6, "Ties(6 ties)", True))
        self.assertEqual((ties.least_kept().worths(), ties.greatest_kept().worths()),
                         ({A: 0, B: 1}, {A: 10, B: 10}))

    def test_nothing_at_all(self):
        ties = Ties([], 1)
        self.assertEqual((ties.standings(), ties.ties(), len(ties), bool(ties)), ([], [], 0, True))
        self.assertIsNone(ties.broken_ring())
        self.assertTrue(ties.least_kept() == ties.greatest_kept() == Worths({}))
        self.assertIs(ties.keeps(Worths({})), True)

    def test_by_name_and_tuples(self):
        ties = Ties(standings=(A, B), top=999, ties=((A, B, -999), (B, A, 999)))
        self.assertEqual(ties.ties()[3], (A, B, -999))
        self.assertEqual((len(Ties((A,), 5)), len(Ties([A], 5, ties=()))), (2, 2))

    def test_least_of_several(self):
        told = [(A, B, 5), (A, B, -3), (A, B, 999), ((), B, 4), ((), B, 9), (B, (), 3), (A, (), -2), (A, (), -1)]
        for seed in range(5):
            random.Random(seed).shuffle(told)
            ties = Ties([A, B], 7, told).ties()
            self.assertEqual(ties, [((), A, 7), ((), B, 4), (A, (), -2), (A, B, -3), (B, (), 0)])

    def test_wrong_standings(self):
        for value in odd_values():
            if not is_one_of(value, [[], ()]):
                self.raises(InvalidStanding, [value], lambda: Ties(value, None, None))
        for value in odd_values():
            if not is_one_of(value, [("quay", 1), ("far", 0)]):
                self.raises(InvalidStanding, [[A, value]], lambda: Ties([A, value], None, None))
        for wrong in [[A, A], (A, B, A), [A, list(B)], A, [("a", True)], [("a", 9)]]:
            self.raises(InvalidStanding, [wrong], lambda: Ties(wrong, 0))
        self.raises(InvalidStanding, [many_standings(61)], lambda: Ties(many_standings(61), 0, 0))
        self.assertEqual(len(Ties(many_standings(60), 5).standings()), 60)

    def test_wrong_tops(self):
        for value in odd_values() + [0, 1000, -1]:
            if not is_one_of(value, [1, 8, 9]):
                self.raises(InvalidNumber, [value], lambda: Ties([A], value, None))
        self.assertEqual([Ties([A], top).ties()[0][2] for top in (1, 999)], [1, 999])

    def test_wrong_ties(self):
        for value in odd_values():
            if not isinstance(value, (list, tuple)):
                self.raises(InvalidTie, [-1], lambda: Ties([A], 5, value))
        wrong = [
            (A, A, 1), ((), (), 1), (A, B), (A, B, 1, 1), [A, B, 1], (A, C, 1), (C, A, 1), (A, list(B), 1), (A, None, 1),
            (("a", False), B, 1), (A, ("b", False), 1), (A, B, True), (A, B, None), (A, B, 1000), (A, B, -1000),
            (A, B, "1"), ([], A, 1), (None, A, 1), ("a", "b", 1),
        ]
        for value in odd_values() + wrong:
            self.raises(InvalidTie, [0], lambda: Ties([A, B], 5, [value]))
            self.raises(InvalidTie, [2], lambda: Ties([A, B], 5, ((A, B, 1), (B, (), 1), value, None)))
        self.assertEqual(Ties([A, B], 5, [(A, B, 999), (B, A, -999)]).ties()[3:], [(A, B, 999), (B, (), 0), (B, A, -999)])

    def test_two_hundred_ties(self):
        told = [(A, B, at) for at in range(200)]
        self.assertEqual(len(Ties([A, B], 5, told)), 5)
        self.raises(TooMany, [200], lambda: Ties([A, B], 5, [*told, (B, A, 1)]))
        self.raises(InvalidTie, [200], lambda: Ties([A, B], 5, [*told, (B, B, 1)]))
        self.raises(TooMany, [200], lambda: Ties([A, B], 5, [(A, B, 1)] * 400))

    def test_errors_in_order(self):
        self.raises(InvalidStanding, [[A, A]], lambda: Ties([A, A], 0, None))
        self.raises(InvalidNumber, [0], lambda: Ties([A], 0, None))
        self.raises(InvalidTie, [1], lambda: Ties([A, B], 5, [(A, B, 1), None, [], *[(A, B, 1)] * 300]))

    def test_copies(self):
        standings, told = [B, A], [(A, B, 2)]
        ties = Ties(standings, 5, told)
        standings.clear()
        told.clear()
        ties.standings().clear()
        ties.ties().clear()
        self.assertEqual((ties.standings(), len(ties.ties())), ([A, B], 5))


class KeepingTest(Raising):
    def test_all_rows_of_tiny_ties(self):
        kept, broken = 0, 0
        for seed in range(300):
            standings, top, told = tiny_ties(seed)
            ties = Ties(standings, top, told)
            rows = list(rows_that_keep(standings, top, told))
            kept, broken = kept + bool(rows), broken + (not rows)
            if rows:
                self.assertIsNone(ties.broken_ring())
                self.assertTrue(ties.least_kept() == met(*rows))
                self.assertTrue(ties.greatest_kept() == joined(*rows))
                self.assertTrue(ties.least_kept() in rows and ties.greatest_kept() in rows)
            else:
                self.check_broken(ties)
        self.assertGreater(min(kept, broken), 30)

    def check_broken(self, ties):
        """A broken ring stands in the answer and in the errors."""
        ring = ties.broken_ring()
        self.assertIsInstance(ring, list)
        self.check_ring(ties, ring)
        for call in (ties.least_kept, ties.greatest_kept):
            with self.assertRaises(NoRow) as caught:
                call()
            self.check_ring(ties, caught.exception.ring)

    def check_ring(self, ties, ring):
        for tie in ring:
            self.assertIn(tie, ties.ties())
        starts, ends = [tie[0] for tie in ring], [tie[1] for tie in ring]
        self.assertEqual(ends, [*starts[1:], starts[0]])
        self.assertEqual(len(set(starts)), len(starts))
        self.assertLess(sum(tie[2] for tie in ring), 0)

    def test_broken_ties_by_words(self):
        several = 0
        for seed in range(60):
            standings, top, told = tiny_ties(seed)
            ties = Ties(standings, top, told)
            for worths in product(range(-1, top + 2), repeat=len(standings)):
                row = Worths(dict(zip(standings, worths)))
                broken = [tie for tie in ties.ties() if not breaks_no_tie(row.worths(), [tie])]
                several += len(broken) > 1
                self.assertEqual(ties.broken_tie(row), broken[0] if broken else None)
                self.assertIs(ties.keeps(row), not broken)
                self.assertIs(ties.keeps(row), breaks_no_tie(row.worths(), all_ties(standings, top, told)))
        self.assertGreater(several, 100)

    def test_rings_of_zero_and_below(self):
        for last, ring in [(-3, None), (-4, [(A, B, 2), (B, C, 1), (C, A, -4)])]:
            ties = Ties([A, B, C], 10, [(A, B, 2), (B, C, 1), (C, A, last)])
            found = ties.broken_ring()
            if ring is None:
                self.assertIsNone(found)
                self.assertEqual(ties.least_kept().worths(), {A: 0, B: 2, C: 3})
                self.assertEqual(ties.greatest_kept().worths(), {A: 7, B: 9, C: 10})
            else:
                self.assertEqual(sorted(found), ring)
                self.check_broken(ties)

    def test_rings_over_home(self):
        self.assertIsNone(Ties([A], 5, [(A, (), -5)]).broken_ring())
        self.assertEqual(Ties([A], 5, [(A, (), -5)]).least_kept().worths(), {A: 5})
        self.assertEqual(sorted(Ties([A], 5, [(A, (), -6)]).broken_ring()), [((), A, 5), (A, (), -6)])
        self.assertEqual(sorted(Ties([A], 5, [((), A, -1)]).broken_ring()), [((), A, -1), (A, (), 0)])
        self.assertEqual(Ties([A, B], 999, [(A, B, -999)]).greatest_kept().worths(), {A: 999, B: 0})
        self.check_broken(Ties([A, B], 998, [(A, B, -999)]))
        self.check_broken(Ties([A, B], 999, [(A, B, -999), ((), A, 998)]))

    def test_other_standings(self):
        ties = Ties([A, B], 5, [(A, B, 1)])
        wrong = [Worths({A: 0}), Worths({A: 0, B: 0, C: 0}), Worths({A: 0, C: 0}), {A: 0, B: 0}, Worths({})]
        for value in wrong + odd_values():
            self.raises(OtherStandings, [], lambda: ties.broken_tie(value))
            self.raises(OtherStandings, [], lambda: ties.keeps(value))
        self.assertEqual(ties.broken_tie(row=Worths({A: 0, B: 2})), (A, B, 1))
        self.assertIs(ties.keeps(row=Worths({A: 0, B: 1})), True)
        broken = Ties([A, B], 5, [(A, B, 1), (B, A, -2)])
        self.assertEqual(broken.broken_tie(Worths({A: 0, B: 1})), (B, A, -2))

    def test_large_ties(self):
        for seed in range(6):
            ties, row = large_ties(seed)
            self.assertIs(ties.keeps(row), True)
            least, greatest = ties.least_kept(), ties.greatest_kept()
            self.assertTrue(least.is_below(row) and row.is_below(greatest))
            self.assertTrue(ties.keeps(least) and ties.keeps(greatest) and ties.keeps(least.between(greatest)))
            self.check_ends(ties, least, greatest)

    def check_ends(self, ties, least, greatest):
        """No worth of the ends can be moved on: a tie holds each one there."""
        for place in ties.standings():
            for row, by in ((least, -1), (greatest, 1)):
                worths = {**row.worths(), place: row.worth(place) + by}
                self.assertFalse(ties.keeps(Worths(worths)))

    def test_large_ties_that_break(self):
        for seed in range(6):
            ties, row = large_ties(seed, ties=150)
            start, end = ties.standings()[seed], ties.standings()[-seed - 1]
            told = [tie for tie in ties.ties() if () not in tie[:2]]
            one = row.worth(end) - row.worth(start)
            self.check_broken(Ties(ties.standings(), 999, [*told, (start, end, one - 1), (end, start, -one)]))


class TiesOfTest(Raising):
    def test_by_hand(self):
        land = Land(2, 10, [("quay", 1, 4), ("hill", 3, None)], roads=[("quay", "hill", 2, 5), ("hill", "quay", 1, 0)])
        ties = ties_of(Web(land, since=0))
        between = [tie for tie in ties.ties() if () not in tie[:2]]
        self.assertEqual(between, [
            (("hill", 0), ("hill", 1), 3), (("hill", 0), ("quay", 1), 0), (("hill", 1), ("hill", 2), 3),
            (("hill", 1), ("quay", 2), 0), (("quay", 0), ("hill", 2), 5),
        ])
        self.assertEqual((ties.top, ties.standings(), len(ties)), (10, land.standings(), 17))
        self.assertEqual(ties_of(web=Web(land, since=3)).ties(), [])
        self.assertEqual(ties_of(Web(land, since=2)).standings(), [("hill", 2), ("quay", 2)])

    def test_by_words(self):
        for web in [*[web for web, _ in tiny_webs(30)], *large_webs(), wide_web(), wide_web(since=5), small_web()]:
            ties = ties_of(web)
            self.assertEqual((ties.standings(), ties.top), (web.standings(), web.land.top))
            told = {((), place): web.land.top for place in web.standings()}
            told.update({(place, ()): 0 for place in web.standings()})
            for key, start, end, room, fee, _ in web.line_sheets():
                if key[0] in ("wait", "walk") and room is None:
                    told[(start, end)] = fee
            self.assertEqual(ties.ties(), [(*ends, told[ends]) for ends in sorted(told)])
            self.assertIsNone(ties.broken_ring())

    def test_each_fitting_row_keeps_them(self):
        for web, plans in tiny_webs(40, yards=2, last=1, top=3):
            for row in fitting_rows(plans[0]):
                self.assertIs(ties_of(web).keeps(row), True)
        for web in [*large_webs(), wide_web(), *[web for web, _ in tiny_webs(60, yards=3, last=3, top=6)]]:
            ties = ties_of(web)
            for row in (least_row(web), greatest_row(web), middle_row(web)):
                self.assertIs(ties.keeps(row), True)
                self.assertTrue(ties.least_kept().is_below(row) and row.is_below(ties.greatest_kept()))

    def test_gaps_stay_within_them(self):
        web = small_web()
        self.assertEqual(web.land, small_land())
        for start, end, most in ties_of(web).ties():
            self.assertLessEqual(gap_range(web, start, end)[1], most)


if __name__ == "__main__":
    unittest.main()
