import random
import unittest

from standworth.errors import InvalidWorths, OtherStandings, UnknownStanding
from standworth.worths import Worths, joined, met
from tests.samples import is_one_of, odd_values, wide_land

LOW = {("quay", 1): 3, ("quay", 0): -5, ("hill", 8): 0}
HIGH = {("quay", 1): 2, ("quay", 0): 4, ("hill", 8): 0}


class WorthsTest(unittest.TestCase):
    def test_worth(self):
        row = Worths(LOW)
        self.assertEqual(row.worth(("quay", 1)), 3)
        self.assertEqual(row.worth(("quay", 0)), -5)
        self.assertEqual(row.worth(()), 0)
        self.assertEqual(Worths({}).worth(()), 0)

    def test_worth_of_other_values(self):
        row = Worths({("quay", 1): 3, ("quay", 0): 4})
        for value in odd_values() + [("quay", 2), ("quay", False), [], ["quay", 1]]:
            if is_one_of(value, [(), ("quay", 1)]):
                continue
            with self.assertRaises(UnknownStanding) as caught:
                row.worth(value)
            self.assertTrue(is_one_of(caught.exception.standing, [value]), repr(value))

    def test_wrong_worths(self):
        wrong = [
            {("quay", True): 1}, {("quay", 1): True}, {("quay", 1): None}, {("quay", 9): 1}, {(): 0}, {"quay": 1},
            {("quay", 1): "1"}, {("quay", 1): 1, ("quay", -1): 1}, {None: 1}, [(("quay", 1), 1)], {("quay", 0): [1]},
        ]
        for value in wrong + odd_values():
            if is_one_of(value, [{}, {("quay", 1): 1}]):
                continue
            with self.assertRaises(InvalidWorths, msg=repr(value)):
                Worths(value)

    def test_told_lists_and_dicts_are_ascending_and_new(self):
        told = dict(LOW)
        row = Worths(told)
        self.assertEqual(told, LOW)
        told[("quay", 1)] = 100
        del told[("quay", 0)]
        self.assertEqual(row.worths(), LOW)
        self.assertEqual(list(row.worths()), [("hill", 8), ("quay", 0), ("quay", 1)])
        self.assertEqual(row.standings(), [("hill", 8), ("quay", 0), ("quay", 1)])
        row.worths().clear()
        row.standings().clear()
        self.assertEqual(row.worths(), LOW)
        self.assertEqual(len(row.standings()), 3)

    def test_lesser_and_greater_worths(self):
        one, other = Worths(LOW), Worths(HIGH)
        self.assertEqual((one & other).worths(), {("hill", 8): 0, ("quay", 0): -5, ("quay", 1): 2})
        self.assertEqual((one | other).worths(), {("hill", 8): 0, ("quay", 0): 4, ("quay", 1): 3})
        self.assertEqual(one.worths(), LOW)
        self.assertEqual(other.worths(), HIGH)
        self.assertEqual(Worths({}) & Worths({}), Worths({}))
        self.assertEqual(Worths({}) | Worths({}), Worths({}))

    def test_halves_are_rounded_down(self):
        one, other = Worths(LOW), Worths(HIGH)
        self.assertEqual(one.between(other).worths(), {("hill", 8): 0, ("quay", 0): -1, ("quay", 1): 2})
        self.assertEqual(one.between(other=one), one)
        low, high = Worths({("a", 0): -4}), Worths({("a", 0): -3})
        self.assertEqual(low.between(high).worths(), {("a", 0): -4})
        self.assertEqual(high.between(low).worths(), {("a", 0): -4})

    def test_below(self):
        one, other = Worths(LOW), Worths(HIGH)
        self.assertIs(one.is_below(other), False)
        self.assertIs(other.is_below(one), False)
        self.assertIs(one.is_below(one), True)
        self.assertIs((one & other).is_below(other=one), True)
        self.assertIs(one.is_below(one | other), True)
        self.assertIs((one | other).is_below(one), False)
        self.assertIs(Worths({}).is_below(Worths({})), True)

    def test_other_standings(self):
        row = Worths(LOW)
        others = [Worths({}), Worths({**LOW, ("a", 0): 0}), Worths({("quay", 1): 3, ("quay", 0): -5}), dict(LOW)]
        for other in others + odd_values():
            for call in (
                lambda: row & other, lambda: row | other, lambda: row.between(other), lambda: row.is_below(other),
            ):
                with self.assertRaises(OtherStandings):
                    call()

    def test_part(self):
        row = Worths({("a", 0): 1, ("a", 3): 2, ("b", 2): 3, ("b", 8): 4})
        self.assertEqual(row.part(0), row)
        self.assertEqual(row.part(since=3).worths(), {("a", 3): 2, ("b", 8): 4})
        self.assertEqual(row.part(2).standings(), [("a", 3), ("b", 2), ("b", 8)])
        self.assertEqual(row.part(9), Worths({}))

    def test_equality(self):
        self.assertTrue(Worths(LOW) == Worths({place: LOW[place] for place in sorted(LOW)}))
        self.assertFalse(Worths(LOW) == Worths(HIGH))
        self.assertTrue(Worths(LOW) != Worths({}))
        self.assertFalse(Worths({("a", 0): 0}) == Worths({("b", 0): 0}))
        self.assertFalse(Worths({("a", 0): 0}) == Worths({}))
        for value in odd_values():
            self.assertIs(Worths(LOW) == value, False)
        self.assertFalse(Worths({}) == {})

    def test_length_truth_and_repr(self):
        self.assertEqual(len(Worths(LOW)), 3)
        self.assertEqual(len(Worths({})), 0)
        self.assertIs(bool(Worths({})), True)
        self.assertEqual(repr(Worths({})), "Worths(0 standings)")
        self.assertEqual(repr(Worths({("a", 0): 0})), "Worths(1 standings)")
        self.assertEqual(repr(Worths(LOW)), "Worths(3 standings)")

    def test_met_and_joined(self):
        rows = [Worths({("a", 0): one, ("b", 1): other}) for one, other in [(5, 1), (3, 2), (4, 0)]]
        self.assertEqual(met(*rows).worths(), {("a", 0): 3, ("b", 1): 0})
        self.assertEqual(joined(*rows).worths(), {("a", 0): 5, ("b", 1): 2})
        self.assertEqual(met(rows[0]), rows[0])
        self.assertEqual(joined(rows[0]), rows[0])
        self.assertEqual(met(Worths({}), Worths({})), Worths({}))

    def test_met_and_joined_refuse(self):
        row = Worths({("a", 0): 1})
        for function in (met, joined):
            with self.assertRaises(InvalidWorths):
                function()
            with self.assertRaises(OtherStandings):
                function(row, row, Worths({}))
            for value in odd_values():
                if isinstance(value, Worths):
                    continue
                with self.assertRaises(InvalidWorths):
                    function(value)
                with self.assertRaises(InvalidWorths):
                    function(row, Worths({}), value)

    def test_wide_rows_follow_the_laws(self):
        luck = random.Random(4)
        standings = wide_land().standings()
        rows = [Worths({place: luck.randint(-99, 99) for place in standings}) for _ in range(6)]
        least, greatest = met(*rows), joined(*rows)
        for place in standings:
            told = [row.worth(place) for row in rows]
            self.assertEqual((least.worth(place), greatest.worth(place)), (min(told), max(told)))
        for row in rows:
            self.assertTrue(least.is_below(row) and row.is_below(greatest))
            self.assertTrue(least.is_below(row.between(greatest)) and row.between(greatest).is_below(greatest))


if __name__ == "__main__":
    unittest.main()
