import unittest

from standworth.errors import InvalidNumber, InvalidRoad, InvalidYard, TooMany, UnknownName
from standworth.lands import Land
from tests.samples import WIDE_ROADS, WIDE_YARDS, Raising, is_one_of, odd_values, small_land, wide_land

QUAY = ("quay", 0, None)
HILL = ("hill", 5, 3)


class LandTest(Raising):
    def test_last_hour(self):
        for last in (0, 8):
            self.assertEqual(Land(last, 1, [QUAY]).last, last)
        for last in [-1, 9, True, False, None, "1", [1], (), Land(0, 1, [QUAY])]:
            self.raises(InvalidNumber, [last], lambda: Land(last, 0, None, roads=5))

    def test_top(self):
        for top in (1, 999):
            self.assertEqual(Land(0, top, [QUAY]).top, top)
        for top in [0, 1000, -1, True, None, "1", [1], {}]:
            self.raises(InvalidNumber, [top], lambda: Land(0, top, None, roads=5))

    def test_yards_at_both_bounds(self):
        yards = [("a", 0, None), ("b", 999, 1), ("abcdef", 0, 99)]
        self.assertEqual(Land(0, 1, yards).yards(), sorted(yards))
        self.assertEqual(Land(0, 1, tuple(yards)).yards(), sorted(yards))

    def test_wrong_yards(self):
        for value in odd_values() + [{"a": QUAY}, "abc"]:
            if isinstance(value, (list, tuple)) and len(value) > 0:
                continue
            self.raises(InvalidYard, [-1], lambda: Land(1, 1, value, roads=5))
        wrong = [
            ("a", -1, None), ("a", 1000, None), ("a", 0, 0), ("a", 0, 100), ("a", True, None), ("a", 0, True),
            ("a", 0, False), ("a", 0, "-"), ("", 0, None), ("abcdefg", 0, None), ("A", 0, None), ("a", 0),
            ("a", 0, None, 0), ["a", 0, None], ("a", None, None), ("quay", 1, 1), QUAY,
        ]
        for value in wrong + odd_values():
            self.raises(InvalidYard, [1], lambda: Land(1, 1, [QUAY, value], roads=5))
            self.raises(InvalidYard, [1], lambda: Land(1, 1, [QUAY, value, ("b", 0, 0)]))

    def test_six_yards_and_the_seventh(self):
        yards = [(name, 0, None) for name in "gfedcba"]
        self.assertEqual(len(Land(1, 1, yards[:6])), 6)
        self.raises(TooMany, [6], lambda: Land(1, 1, yards, roads=5))
        self.raises(InvalidYard, [7], lambda: Land(1, 1, yards + [("b", 0, None)]))

    def test_roads_at_both_bounds(self):
        roads = [("quay", "hill", 8, 0), ("hill", "quay", 1, 999)]
        self.assertEqual(Land(1, 1, [QUAY, HILL], roads=roads).roads(), sorted(roads))
        self.assertEqual(Land(1, 1, [QUAY, HILL], roads=tuple(roads)).roads(), sorted(roads))
        self.assertEqual(Land(1, 1, [QUAY]).roads(), [])

    def test_wrong_roads(self):
        for value in odd_values():
            if not isinstance(value, (list, tuple)):
                self.raises(InvalidRoad, [-1], lambda: Land(1, 1, [QUAY, HILL], roads=value))
        good = ("quay", "hill", 1, 0)
        wrong = [
            ("hill", "quay", 0, 0), ("hill", "quay", 9, 0), ("hill", "quay", 1, -1), ("hill", "quay", 1, 1000),
            ("hill", "quay", True, 0), ("hill", "quay", 1, False), ("hill", "hill", 1, 0), ("hill", "far", 1, 0),
            ("far", "hill", 1, 0), ("hill", "quay", 1), ("hill", "quay", 1, 0, 0), ["hill", "quay", 1, 0],
            ("quay", "hill", 2, 3), good, (["hill"], "quay", 1, 0), ("hill", ["quay"], 1, 0), ("hill", None, 1, 0),
        ]
        for value in wrong + odd_values():
            self.raises(InvalidRoad, [1], lambda: Land(1, 1, [QUAY, HILL], roads=[good, value]))
            self.raises(InvalidRoad, [1], lambda: Land(1, 1, [QUAY, HILL], roads=[good, value, good]))

    def test_eight_roads_and_the_ninth(self):
        yards = [(name, 0, None) for name in "abcd"]
        roads = [(one, other, 1, 1) for one in "abcd" for other in "abcd" if one != other]
        land = Land(1, 1, yards, roads=roads[:8])
        self.assertEqual(land.roads(), roads[:8])
        self.raises(TooMany, [8], lambda: Land(1, 1, yards, roads=roads[:9]))
        self.raises(InvalidRoad, [9], lambda: Land(1, 1, yards, roads=roads[:9] + roads[:1]))

    def test_the_first_error_counts(self):
        self.raises(InvalidNumber, [9], lambda: Land(9, 0, [], roads=5))
        self.raises(InvalidNumber, [0], lambda: Land(8, 0, [], roads=5))
        self.raises(InvalidYard, [-1], lambda: Land(8, 1, [], roads=5))
        self.raises(TooMany, [6], lambda: Land(8, 1, [(name, 0, None) for name in "abcdefg"], roads=5))
        self.raises(InvalidRoad, [0], lambda: Land(8, 1, [QUAY], roads=[5, 6]))

    def test_told_lists_are_ascending_and_new(self):
        yards, roads = list(WIDE_YARDS), list(WIDE_ROADS)
        land = Land(8, 99, yards, roads=roads)
        self.assertEqual((yards, roads), (WIDE_YARDS, WIDE_ROADS))
        yards.clear()
        roads.pop()
        for _ in range(2):
            self.assertEqual([yard[0] for yard in land.yards()], ["abbey", "bank", "cove", "dock", "elm", "fort"])
            self.assertEqual(land.roads(), sorted(WIDE_ROADS))
            land.yards().clear()
            land.roads().clear()
            land.standings().clear()
        self.assertEqual(len(land.standings()), 54)

    def test_yard(self):
        land = Land(1, 1, [QUAY, HILL])
        self.assertEqual(land.yard("hill"), HILL)
        self.assertEqual(land.yard(name="quay"), QUAY)
        for value in odd_values() + ["far", "hil", ["quay"]]:
            if value == "quay":
                continue
            with self.assertRaises(UnknownName) as caught:
                land.yard(value)
            self.assertTrue(is_one_of(caught.exception.name, [value]), repr(value))

    def test_standings(self):
        land = small_land()
        self.assertEqual(land.standings(), [
            ("hill", 0), ("hill", 1), ("hill", 2), ("quay", 0), ("quay", 1), ("quay", 2),
        ])
        self.assertEqual(land.standings(2), [("hill", 2), ("quay", 2)])
        self.assertEqual(land.standings(since=3), [])
        self.assertEqual(land.standings(-1), land.standings())
        self.assertEqual(wide_land().standings(), sorted((yard[0], hour) for yard in WIDE_YARDS for hour in range(9)))
        self.assertEqual(Land(0, 1, [QUAY]).standings(), [("quay", 0)])

    def test_has(self):
        land = small_land()
        for standing in land.standings():
            self.assertIs(land.has(standing), True)
        for value in odd_values() + [("quay", 3), ("far", 0), ("hill", True), ["quay", 0]]:
            self.assertIs(land.has(standing=value), is_one_of(value, land.standings()), repr(value))

    def test_equality(self):
        same = Land(2, 10, [("hill", 0, None), ("quay", 1, 4)], roads=(("quay", "hill", 1, 2),))
        self.assertTrue(small_land() == same)
        road = ("quay", "hill", 1, 2)
        yards = [("quay", 1, 4), ("hill", 0, None)]
        others = [
            Land(1, 10, yards, roads=[road]), Land(2, 11, yards, roads=[road]), Land(2, 10, yards),
            Land(2, 10, [("quay", 1, None), yards[1]], roads=[road]),
            Land(2, 10, yards + [("far", 0, 1)], roads=[road]),
            Land(2, 10, yards, roads=[("quay", "hill", 1, 3)]),
            Land(2, 10, yards, roads=[road, ("hill", "quay", 1, 2)]),
        ]
        for other in others + odd_values():
            self.assertIs(small_land() == other, False)
            self.assertIs(small_land() != other, True)

    def test_length_repr_and_class_value(self):
        self.assertEqual(len(small_land()), 2)
        self.assertTrue(small_land())
        self.assertEqual(repr(small_land()), "Land(2 yards, 1 roads)")
        self.assertEqual(repr(Land(0, 1, [QUAY])), "Land(1 yards, 0 roads)")
        self.assertEqual(repr(wide_land()), "Land(6 yards, 8 roads)")
        self.assertEqual(Land.YARDS, 6)
        self.assertEqual(wide_land().YARDS, 6)


if __name__ == "__main__":
    unittest.main()
