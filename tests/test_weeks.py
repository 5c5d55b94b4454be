import unittest

from standworth.askings import Hire, Work
from standworth.errors import (
    AboveTop, DuplicateName, InvalidAsking, InvalidGiven, InvalidNumber, InvalidText, TooMany, UnknownName,
    UnknownStanding,
)
from standworth.lands import Land
from standworth.webs import Web
from standworth.weeks import Week
from tests.samples import (
    is_one_of, odd_values, small_askings, small_land, told_by, wide_askings, wide_given, wide_land, wide_web, wide_week,
)


def small_week():
    return Week(small_land(), small_askings(), given=[(("hill", 0), 1), (("quay", 1), -99)])


class WeekTest(unittest.TestCase):
    def refused(self, week, error, told, call):
        """A refused deed raises its error and changes nothing."""
        twin, text = week.twin(), week.text()
        with self.assertRaises(error) as caught:
            call()
        self.assertEqual(told_by(caught.exception), [repr(value) for value in told])
        self.assertTrue(week == twin)
        self.assertEqual(week.text(), text)
        self.assertEqual((week.askings(), week.given()), (twin.askings(), twin.given()))

    def raises(self, error, told, call):
        self.refused(small_week(), error, told, call)

    def test_made_as_a_web(self):
        week = small_week()
        self.assertEqual(week.land, small_land())
        self.assertEqual([asking.name for asking in week.askings()], ["men", "mow", "dig"])
        self.assertEqual(week.asking("dig"), small_askings()[0])
        self.assertEqual(week.given(), [(("hill", 0), 1), (("quay", 1), -99)])
        self.assertEqual(week.given_at(("quay", 1)), -99)
        self.assertEqual(week.given_at(standing=("quay", 2)), 0)
        for value in odd_values():
            if not is_one_of(value, [("quay", 1)]):
                self.assertEqual(week.given_at(value), 0)
            with self.assertRaises(UnknownName) as caught:
                week.asking(value)
            self.assertTrue(is_one_of(caught.exception.name, [value]), repr(value))
        self.assertEqual((Week.MOST, week.MOST), (24, 24))

    def test_errors_as_of_a_web(self):
        land, askings = small_land(), small_askings()
        far = Work("far", "ann", ("quay", 0), ("far", 1), 1, 1)
        dear = Hire("dear", "ann", ("quay", 0), 1, 11)
        self.raises(InvalidAsking, [-1], lambda: Week(land, None, given=None))
        self.raises(InvalidAsking, [3], lambda: Week(land, askings + ["dig"], given=None))
        self.raises(TooMany, [24], lambda: Week(wide_land(), wide_askings() + askings, given=None))
        self.raises(DuplicateName, ["dig"], lambda: Week(land, [far, dear] + askings + askings[:1], given=None))
        self.raises(UnknownStanding, [("far", 1)], lambda: Week(land, [far, dear], given=None))
        self.raises(AboveTop, ["dear"], lambda: Week(land, [dear, far], given=None))
        for value in odd_values():
            if not isinstance(value, (list, tuple)):
                self.raises(InvalidGiven, [-1], lambda: Week(land, given=value))
            if not is_one_of(value, [(("quay", 1), 1)]):
                self.raises(InvalidGiven, [1], lambda: Week(land, given=[(("hill", 0), 3), value, None]))

    def test_given_crews_at_both_bounds_and_beyond(self):
        land = small_land()
        self.assertEqual(Week(land, given=[(("hill", 0), 99), (("quay", 0), -99)]).given_at(("hill", 0)), 99)
        for many in (100, -100, 1000000):
            self.raises(InvalidGiven, [1], lambda: Week(land, given=[(("hill", 0), 99), (("quay", 0), many), 5]))
            self.raises(InvalidGiven, [0], lambda: Week(land, given=((("hill", 0), many), None)))
        self.raises(InvalidGiven, [0], lambda: Week(land, given=[5, (("hill", 0), 100)]))
        self.raises(InvalidAsking, [0], lambda: Week(land, [5], given=[(("hill", 0), 100)]))

    def test_ask(self):
        week = Week(small_land())
        for asking in small_askings():
            self.assertIsNone(week.ask(asking=asking))
        self.assertTrue(week == Week(small_land(), small_askings()))
        self.assertEqual(len(week), 3)

    def test_ask_refuses(self):
        week = small_week()
        same = Hire("dig", "bob", ("far", 0), 1, 99)
        for value in odd_values():
            if not isinstance(value, (Work, Hire)):
                self.refused(week, InvalidAsking, [3], lambda: week.ask(value))
        self.refused(week, DuplicateName, ["dig"], lambda: week.ask(same))
        self.refused(week, UnknownStanding, [("far", 0)], lambda: week.ask(Hire("new", "bob", ("far", 0), 1, 99)))
        far = Work("new", "bob", ("quay", 0), ("quay", 3), 1, 99)
        self.refused(week, UnknownStanding, [("quay", 3)], lambda: week.ask(far))
        self.refused(week, AboveTop, ["new"], lambda: week.ask(Hire("new", "bob", ("quay", 0), 1, 11)))

    def test_24_askings_and_the_25th(self):
        week = Week(wide_land(), wide_askings(23))
        week.ask(wide_askings()[23])
        self.assertEqual(len(week), 24)
        self.refused(week, TooMany, [24], lambda: week.ask(wide_askings()[0]))
        self.refused(week, InvalidAsking, [24], lambda: week.ask(None))
        week.withdraw(wide_askings()[4].name)
        self.refused(week, DuplicateName, [wide_askings()[0].name], lambda: week.ask(wide_askings()[0]))
        week.ask(wide_askings()[4])
        self.assertTrue(week == Week(wide_land(), wide_askings()))

    def test_withdraw(self):
        week = small_week()
        self.assertIsNone(week.withdraw(name="men"))
        self.assertEqual([asking.name for asking in week.askings()], ["mow", "dig"])
        for value in odd_values() + ["men", "di", ["dig"]]:
            self.refused(week, UnknownName, [value], lambda: week.withdraw(value))

    def test_change(self):
        week = small_week()
        self.assertIsNone(week.change("men", crews=99, price=10))
        self.assertEqual((week.asking("men").crews, week.asking("men").price), (99, 10))
        self.assertIsNone(week.change(name="dig", crews=1, price=999))
        self.assertTrue(week.asking("dig") == small_askings()[0].with_terms(1, 999))
        self.assertEqual([asking.name for asking in week.askings()], ["men", "mow", "dig"])
        for value in odd_values():
            self.refused(week, UnknownName, [value], lambda: week.change(value, 0, -1))
            if not is_one_of(value, [1, 8, 9]):
                self.refused(week, InvalidNumber, [value], lambda: week.change("men", value, -1))
            if not is_one_of(value, [0, 1, 8, 9]):
                self.refused(week, InvalidNumber, [value], lambda: week.change("men", 1, value))
        for crews, price, wrong in [(0, 5, 0), (100, -1, 100), (99, 1000, 1000), (1, -1, -1)]:
            self.refused(week, InvalidNumber, [wrong], lambda: week.change("men", crews, price))
        self.refused(week, AboveTop, ["men"], lambda: week.change("men", 1, 11))

    def test_give(self):
        week = small_week()
        self.assertIsNone(week.give(("hill", 0), 98))
        self.assertEqual(week.given_at(("hill", 0)), 99)
        self.assertIsNone(week.give(standing=("quay", 1), many=99))
        self.assertEqual(week.given(), [(("hill", 0), 99)])
        week.give(("quay", 2), -99)
        week.give(("quay", 2), 0)
        self.assertEqual(week.given_at(("quay", 2)), -99)
        self.refused(week, TooMany, [99], lambda: week.give(("quay", 2), -1))
        self.refused(week, TooMany, [99], lambda: week.give(("hill", 0), 1))
        week.give(("hill", 0), -99)
        week.give(("hill", 0), -99)
        self.assertEqual(week.given_at(("hill", 0)), -99)
        for many in (100, -100):
            self.refused(week, InvalidNumber, [many], lambda: week.give(("hill", 0), many))
        for value in odd_values() + [("quay", 3), ("far", 0), ("quay", True)]:
            if not is_one_of(value, [("quay", 1)]):
                self.refused(week, UnknownStanding, [value], lambda: week.give(value, None))
            if not is_one_of(value, [0, 1, -1, 8, 9]):
                self.refused(week, InvalidNumber, [value], lambda: week.give(("quay", 1), value))

    def test_as_web(self):
        week = small_week()
        for since in range(4):
            web = Web(small_land(), small_askings(), given=week.given(), since=since)
            self.assertTrue(week.as_web(since) == web)
        self.assertTrue(week.as_web() == week.as_web(since=0))
        for since in [-1, 4, True, False, None, "1", [0], (), week]:
            self.raises(InvalidNumber, [since], lambda: week.as_web(since))
        self.assertTrue(wide_week().as_web() == wide_web())

    def test_webs_of_a_week_do_not_change_with_it(self):
        week = small_week()
        web = week.as_web()
        week.withdraw("dig")
        week.give(("quay", 2), 5)
        self.assertTrue(web == Web(small_land(), small_askings(), given=[(("hill", 0), 1), (("quay", 1), -99)]))

    def test_text_and_read(self):
        week = small_week()
        text = (
            "week 2 10\nyard hill 0 -\nyard quay 1 4\nroad quay hill 1 2\nhire men bob 0 quay 0 2 3\n"
            "work mow cyd 0 hill 1 quay 2 1 9\nwork dig ann 1 quay 0 quay 2 3 6\n"
            "given hill 0 1\ngiven quay 1 -99\nend\n"
        )
        self.assertEqual(week.text(), text)
        self.assertTrue(Week.read(text) == week)
        self.assertTrue(Week.read(text=wide_week().text()) == wide_week())
        for value in odd_values():
            if not isinstance(value, str):
                self.raises(InvalidText, [0, "form"], lambda: Week.read(value))
        self.raises(InvalidText, [0, "missing"], lambda: Week.read(""))
        self.raises(InvalidText, [10, "form"], lambda: Week.read(text + "\n"))

    def test_in(self):
        week = small_week()
        for name in ("dig", "men", "mow"):
            self.assertIs(name in week, True)
        week.withdraw("dig")
        for value in odd_values() + ["dig", "di", "", ["men"], ("men",), small_askings()[1]]:
            self.assertIs(value in week, False)

    def test_twins_are_independent(self):
        week = small_week()
        twin = week.twin()
        self.assertTrue(week == twin)
        twin.withdraw("dig")
        week.give(("quay", 2), 3)
        self.assertIn("dig", week)
        self.assertEqual(twin.given_at(("quay", 2)), 0)
        self.assertFalse(week == twin)
        self.assertTrue(week.twin() == week)

    def test_lists_are_copied_and_new(self):
        askings, given = small_askings(), [(("hill", 0), 1), (("quay", 1), -99)]
        week = Week(small_land(), askings, given=given)
        self.assertEqual((askings, given), (small_askings(), [(("hill", 0), 1), (("quay", 1), -99)]))
        askings.clear()
        given.clear()
        week.askings().clear()
        week.given().clear()
        self.assertTrue(week == small_week())

    def test_equality_whatever_was_done_ahead(self):
        week = Week(small_land(), list(reversed(small_askings())))
        week.give(("quay", 1), -99)
        week.give(("hill", 0), 3)
        week.give(("hill", 0), -2)
        week.withdraw("dig")
        week.ask(small_askings()[0].with_terms(9, 9))
        week.change("dig", 3, 6)
        self.assertTrue(week == small_week())
        self.assertFalse(week != small_week())
        week.change("dig", 3, 7)
        dearer = Land(2, 11, small_land().yards(), roads=small_land().roads())
        others = [
            week, Week(small_land(), small_askings()), Week(small_land()),
            Week(dearer, small_askings(), given=small_week().given()),
        ]
        for other in others + odd_values() + [small_week().as_web()]:
            self.assertIs(small_week() == other, False)

    def test_length_truth_and_repr(self):
        self.assertEqual((len(small_week()), len(Week(small_land()))), (3, 0))
        self.assertIs(bool(Week(small_land())), True)
        self.assertEqual(repr(Week(small_land(), small_askings()[:1])), "Week(1 askings)")
        self.assertEqual(repr(Week(small_land())), "Week(0 askings)")
        self.assertEqual(repr(wide_week()), "Week(24 askings)")

    def test_a_wide_week(self):
        week = wide_week()
        self.assertEqual(week.given(), sorted(pair for pair in wide_given() if pair[1] != 0))
        for asking in week.askings():
            week.withdraw(asking.name)
        self.assertEqual(len(week), 0)
        for asking in sorted(wide_askings(), key=lambda asking: asking.price):
            week.ask(asking)
        self.assertTrue(week == wide_week())


if __name__ == "__main__":
    unittest.main()
