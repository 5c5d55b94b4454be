import unittest

from standworth.askings import Hire, Work
from standworth.errors import (
    AboveTop, DuplicateName, InvalidAsking, InvalidGiven, InvalidNumber, Over, TooMany, UnknownLine, UnknownName,
    UnknownStanding,
)
from standworth.lands import Land
from standworth.webs import Web
from tests.samples import (
    Raising, is_one_of, odd_values, small_askings, small_land, small_web, wide_askings, wide_given, wide_land, wide_web,
)

HOME = ()


def sheets_by_the_table(land, askings, since):
    """The table of [6], row by row, over all hours; lines that begin before since are left out at the end."""
    sheets = []
    for name, fee, beds in land.yards():
        for hour in range(land.last + 1):
            sheets.append((hour, (("buy", name, hour), HOME, (name, hour), None, land.top, "")))
            sheets.append((hour, (("free", name, hour), (name, hour), HOME, None, 0, "")))
            if hour < land.last:
                sheets.append((hour, (("wait", name, hour), (name, hour), (name, hour + 1), beds, fee, "")))
    for yard, other, hours, fee in land.roads():
        for hour in range(land.last + 1):
            if hour + hours <= land.last:
                sheets.append((hour, (("walk", yard, other, hour), (yard, hour), (other, hour + hours), None, fee, "")))
    for asking in askings:
        if isinstance(asking, Work):
            sheet = (("work", asking.name), asking.start, asking.end, asking.crews, -asking.price, asking.owner)
            sheets.append((asking.start[1], sheet))
        else:
            sheet = (("hire", asking.name), HOME, asking.end, asking.crews, asking.price, asking.owner)
            sheets.append((asking.end[1], sheet))
    return sorted((sheet for hour, sheet in sheets if hour >= since), key=lambda sheet: sheet[0])


class WebTest(Raising):
    def test_lines_of_a_small_web(self):
        web = Web(Land(1, 10, [("quay", 2, 5)]), [
            Work("dig", "ann", ("quay", 0), ("quay", 1), 1, 6), Hire("men", "bob", ("quay", 0), 4, 3),
        ])
        self.assertEqual(web.line_sheets(), [
            (("buy", "quay", 0), (), ("quay", 0), None, 10, ""),
            (("buy", "quay", 1), (), ("quay", 1), None, 10, ""),
            (("free", "quay", 0), ("quay", 0), (), None, 0, ""),
            (("free", "quay", 1), ("quay", 1), (), None, 0, ""),
            (("hire", "men"), (), ("quay", 0), 4, 3, "bob"),
            (("wait", "quay", 0), ("quay", 0), ("quay", 1), 5, 2, ""),
            (("work", "dig"), ("quay", 0), ("quay", 1), 1, -6, "ann"),
        ])
        self.assertEqual(web.line_keys(), [sheet[0] for sheet in web.line_sheets()])
        self.assertEqual(web.lines_from(()), [("buy", "quay", 0), ("buy", "quay", 1), ("hire", "men")])
        self.assertEqual(web.lines_to(()), [("free", "quay", 0), ("free", "quay", 1)])
        self.assertEqual(web.lines_from(("quay", 0)), [("free", "quay", 0), ("wait", "quay", 0), ("work", "dig")])
        self.assertEqual(web.lines_to(("quay", 1)), [("buy", "quay", 1), ("wait", "quay", 0), ("work", "dig")])

    def test_lines_of_every_web_by_the_table(self):
        lands = [
            (small_land(), small_askings()), (wide_land(), wide_askings()), (wide_land(), []),
            (Land(0, 1, [("quay", 0, 1), ("hill", 0, 1)], roads=[("quay", "hill", 1, 0)]), []),
            (Land(2, 1, [("quay", 0, 1), ("hill", 0, 1)], roads=[("quay", "hill", 3, 0), ("hill", "quay", 2, 0)]), []),
        ]
        for land, askings in lands:
            for since in range(land.last + 2):
                web = Web(land, askings, since=since)
                sheets = sheets_by_the_table(land, askings, since)
                self.assertEqual(web.line_sheets(), sheets)
                self.assertEqual(web.line_keys(), [sheet[0] for sheet in sheets])
                self.assertEqual(len(web), len(sheets))
                for place in web.places():
                    self.assertEqual(web.lines_from(place), [sheet[0] for sheet in sheets if sheet[1] == place])
                    self.assertEqual(web.lines_to(place), [sheet[0] for sheet in sheets if sheet[2] == place])
                for sheet in sheets:
                    self.assertEqual(web.line_sheet(sheet[0]), sheet)

    def test_places(self):
        web = small_web()
        self.assertEqual(web.standings(), small_land().standings())
        self.assertEqual(web.places(), [()] + small_land().standings())
        later = Web(small_land(), since=2)
        self.assertEqual(later.places(), [(), ("hill", 2), ("quay", 2)])
        self.assertEqual((later.since, later.land), (2, small_land()))
        self.assertEqual(Web(small_land()).since, 0)

    def test_no_web_without_hours_has_lines(self):
        web = Web(small_land(), small_askings(), given=[(("hill", 0), 1)], since=3)
        self.assertEqual((web.places(), web.standings(), web.askings(), web.given()), ([()], [], [], []))
        self.assertEqual((len(web), web.line_keys(), web.line_sheets(), web.owners()), (0, [], [], []))
        self.assertEqual((web.lines_from(()), web.lines_to(())), ([], []))
        self.assertTrue(web)
        self.assertEqual(repr(web), "Web(0 standings, 0 lines)")
        self.assertEqual(len(Web(Land(8, 1, [("a", 0, None)]), since=9)), 0)

    def test_askings(self):
        askings = small_askings()
        web = Web(small_land(), askings)
        self.assertEqual([asking.name for asking in web.askings()], ["men", "mow", "dig"])
        self.assertEqual(web.owners(), ["ann", "bob", "cyd"])
        self.assertEqual([asking.name for asking in Web(small_land(), askings, since=1).askings()], ["mow"])
        self.assertEqual(web.asking("mow"), askings[2])
        self.assertEqual(web.asking(name="dig"), askings[0])
        wide = wide_web()
        self.assertEqual(len(wide.askings()), 24)
        self.assertEqual(wide.askings(), sorted(wide_askings(), key=lambda asking: (asking.rank, asking.name)))
        self.assertEqual(wide.owners(), ["owna", "ownb", "ownc", "ownd", "owne"])

    def test_asking_of_other_values(self):
        web = Web(small_land(), small_askings(), since=1)
        for value in odd_values() + ["dig", "men", "mo", ["mow"], ("mow",)]:
            with self.assertRaises(UnknownName) as caught:
                web.asking(value)
            self.assertTrue(is_one_of(caught.exception.name, [value]), repr(value))

    def test_given_crews(self):
        given = [(("quay", 2), 5), (("hill", 0), 1), (("quay", 1), -1000), (("hill", 2), 0)]
        web = Web(small_land(), given=given)
        self.assertEqual(web.given(), [(("hill", 0), 1), (("quay", 1), -1000), (("quay", 2), 5)])
        self.assertEqual(web.given_at(("quay", 1)), -1000)
        self.assertEqual(web.given_at(("hill", 2)), 0)
        self.assertEqual(web.given_at(standing=("hill", 1)), 0)
        later = Web(small_land(), given=given, since=2)
        self.assertEqual(later.given(), [(("quay", 2), 5)])
        self.assertEqual(later.given_at(("quay", 1)), 0)
        self.assertEqual(Web(small_land(), given=tuple(given)), web)
        for value in odd_values() + [("quay", True), ["quay", 1], ("far", 1)]:
            if not is_one_of(value, [("quay", 1)]):
                self.assertEqual(web.given_at(value), 0, repr(value))

    def test_wrong_askings(self):
        land = small_land()
        for value in odd_values():
            if not isinstance(value, (list, tuple)):
                self.raises(InvalidAsking, [-1], lambda: Web(land, value, given=5, since=99))
            if not isinstance(value, (Work, Hire)):
                wrong = [*small_askings(), value]
                self.raises(InvalidAsking, [3], lambda: Web(land, wrong + [None], given=5, since=99))
                self.raises(InvalidAsking, [3], lambda: small_web().with_asking(value))
        self.raises(InvalidAsking, [48], lambda: Web(wide_land(), wide_askings() * 2 + [0], given=5))

    def test_askings_that_begin_before_since_are_checked_too(self):
        land = small_land()
        far = Work("far", "ann", ("far", 0), ("quay", 1), 1, 1)
        dear = Hire("dear", "ann", ("quay", 0), 1, 11)
        self.raises(UnknownStanding, [("far", 0)], lambda: Web(land, [far], since=3))
        self.raises(AboveTop, ["dear"], lambda: Web(land, [dear], since=3))
        self.raises(DuplicateName, ["dig"], lambda: Web(land, small_askings() + small_askings()[:1], since=3))
        self.raises(InvalidGiven, [0], lambda: Web(land, given=[(("far", 0), 1)], since=3))
        self.raises(TooMany, [24], lambda: Web(wide_land(), wide_askings() + small_askings(), since=9))

    def test_24_askings_and_the_25th(self):
        askings = wide_askings()
        more = Hire("more", "ann", ("elm", 0), 1, 1)
        self.assertEqual(len(wide_web()), len(Web(wide_land())) + 24)
        self.raises(TooMany, [24], lambda: Web(wide_land(), askings + [more], given=5))
        self.raises(TooMany, [24], lambda: Web(wide_land(), askings + askings, given=5))
        self.raises(TooMany, [24], lambda: wide_web().with_asking(askings[0]))
        self.assertEqual(len(Web(wide_land(), askings[:23]).with_asking(askings[23])), len(wide_web()))

    def test_duplicate_names(self):
        first, second, third = small_askings()
        same = Hire("mow", "bob", ("far", 0), 1, 99)
        self.raises(DuplicateName, ["mow"], lambda: Web(small_land(), [third, first, same, first], given=5))
        self.raises(DuplicateName, ["dig"], lambda: Web(small_land(), [third, first, first, same]))
        self.raises(DuplicateName, ["mow"], lambda: Web(small_land(), [third, second]).with_asking(same))

    def test_standings_and_tops_in_the_order_of_the_list(self):
        land = small_land()
        dear = Hire("dear", "ann", ("quay", 0), 1, 11)
        self.assertEqual(len(Web(land, [Hire("top", "ann", ("quay", 0), 1, 10)]).askings()), 1)
        self.assertEqual(len(Web(land, [Work("top", "ann", ("quay", 0), ("quay", 1), 1, 999)]).askings()), 1)
        start = Work("one", "ann", ("far", 0), ("off", 1), 1, 1)
        end = Work("two", "ann", ("quay", 0), ("quay", 3), 1, 1)
        hire = Hire("three", "ann", ("far", 5), 1, 99)
        self.raises(AboveTop, ["dear"], lambda: Web(land, [dear, start, end, hire], given=5))
        self.raises(UnknownStanding, [("far", 0)], lambda: Web(land, [start, end, hire, dear], given=5))
        self.raises(UnknownStanding, [("quay", 3)], lambda: Web(land, [end, hire, dear, start], given=5))
        self.raises(UnknownStanding, [("far", 5)], lambda: Web(land, [hire, dear, start, end], given=5))
        for asking, error, told in [
            (dear, AboveTop, "dear"), (start, UnknownStanding, ("far", 0)), (end, UnknownStanding, ("quay", 3)),
            (hire, UnknownStanding, ("far", 5)),
        ]:
            self.raises(error, [told], lambda: Web(land, since=3).with_asking(asking))

    def test_wrong_given_crews(self):
        land = small_land()
        for value in odd_values():
            if not isinstance(value, (list, tuple)):
                self.raises(InvalidGiven, [-1], lambda: Web(land, given=value, since=99))
            if not is_one_of(value, [(("quay", 1), 1)]):
                self.raises(InvalidGiven, [1], lambda: Web(land, given=[(("hill", 0), 3), value, None], since=99))
        for value in [
            (("quay", 3), 1), (("quay", 0), True), (("quay", True), 1), [("quay", 0), 1], (("quay", 0), 1, 1),
            (["quay", 0], 1), ((), 1), (("hill", 0), 0), (("quay", 0), "1"),
        ]:
            self.raises(InvalidGiven, [1], lambda: Web(land, given=((("hill", 0), 0), value), since=99))

    def test_wrong_since(self):
        for since in [-1, 4, True, False, None, "1", [0], (), small_web()]:
            self.raises(InvalidNumber, [since], lambda: Web(small_land(), since=since))
        self.raises(InvalidNumber, [10], lambda: Web(wide_land(), since=10))

    def test_lines_of_other_values(self):
        web = small_web()
        for value in odd_values() + [
            ("buy", "quay", 3), ("buy", "quay", True), ("wait", "quay", 2), ("walk", "hill", "quay", 0),
            ("walk", "quay", "hill", 2), ("walk", "quay", "hill", True), ("hire", "dig"), ["work", "dig"],
        ]:
            self.assertIs(web.has_line(value), False, repr(value))
            with self.assertRaises(UnknownLine) as caught:
                web.line_sheet(value)
            self.assertTrue(is_one_of(caught.exception.key, [value]), repr(value))
        for key in web.line_keys():
            self.assertIs(web.has_line(key=key), True)
        self.assertIs(Web(small_land(), small_askings(), since=1).has_line(("work", "dig")), False)

    def test_lines_at_other_values(self):
        web = Web(small_land(), small_askings(), since=1)
        for value in odd_values() + [("quay", 0), ("quay", 3), ["quay", 1], ("far", 1)]:
            if is_one_of(value, [(), ("quay", 1)]):
                continue
            for call in (web.lines_from, web.lines_to):
                with self.assertRaises(UnknownStanding) as caught:
                    call(value)
                self.assertTrue(is_one_of(caught.exception.standing, [value]), repr(value))

    def test_with_asking(self):
        first, second, third = small_askings()
        web = Web(small_land(), [first, third], given=[(("hill", 0), 4)])
        more = web.with_asking(asking=second)
        self.assertTrue(more == Web(small_land(), small_askings(), given=[(("hill", 0), 4)]))
        self.assertEqual(len(web.askings()), 2)
        later = Web(small_land(), [third], given=[(("hill", 2), 4)], since=1)
        last = Hire("last", "ann", ("hill", 2), 1, 1)
        self.assertTrue(later.with_asking(last) == Web(small_land(), [last, third], given=[(("hill", 2), 4)], since=1))

    def test_with_asking_that_begins_before_since(self):
        first, second, third = small_askings()
        web = Web(small_land(), [third], since=1)
        self.raises(Over, [0], lambda: web.with_asking(first))
        self.raises(Over, [0], lambda: web.with_asking(second))
        self.raises(Over, [1], lambda: Web(small_land(), since=2).with_asking(third))
        self.raises(DuplicateName, ["mow"], lambda: web.with_asking(Hire("mow", "ann", ("quay", 0), 1, 1)))
        self.raises(AboveTop, ["dear"], lambda: web.with_asking(Hire("dear", "ann", ("quay", 0), 1, 11)))
        self.raises(UnknownStanding, [("far", 0)], lambda: web.with_asking(Hire("dear", "ann", ("far", 0), 1, 11)))
        gone = Web(small_land(), small_askings(), since=2)
        self.raises(InvalidAsking, [0], lambda: gone.with_asking(None))
        self.assertEqual(len(gone.with_asking(Hire("dig", "ann", ("quay", 2), 1, 1)).askings()), 1)

    def test_without(self):
        web = small_web()
        less = web.without("dig")
        self.assertTrue(less == Web(small_land(), small_askings()[1:], given=web.given()))
        self.assertEqual(len(web.askings()), 3)
        self.assertTrue(less.with_asking(small_askings()[0]) == web)
        for value in odd_values():
            with self.assertRaises(UnknownName) as caught:
                web.without(value)
            self.assertTrue(is_one_of(caught.exception.name, [value]), repr(value))
        self.raises(UnknownName, ["dig"], lambda: Web(small_land(), small_askings(), since=1).without("dig"))

    def test_with_given(self):
        web = small_web()
        self.assertEqual(web.with_given(("hill", 0), 5).given(), [(("hill", 0), 6), (("quay", 1), -1)])
        self.assertEqual(web.with_given(("hill", 0), -1).given(), [(("quay", 1), -1)])
        self.assertEqual(web.with_given(standing=("quay", 2), many=-12345).given_at(("quay", 2)), -12345)
        self.assertTrue(web.with_given(("quay", 2), 0) == web)
        self.assertEqual(web.given(), [(("hill", 0), 1), (("quay", 1), -1)])
        self.assertEqual(web.with_given(("hill", 0), 5).askings(), web.askings())
        later = Web(small_land(), since=1)
        self.assertEqual(later.with_given(("hill", 1), 2).since, 1)
        self.raises(UnknownStanding, [("hill", 0)], lambda: later.with_given(("hill", 0), 2))
        for value in odd_values():
            if not is_one_of(value, [("quay", 1)]):
                self.raises(UnknownStanding, [value], lambda: web.with_given(value, None))
            if not is_one_of(value, [0, 1, -1, 8, 9, 999999999]):
                self.raises(InvalidNumber, [value], lambda: web.with_given(("quay", 1), value))

    def test_of_owners(self):
        web = small_web()
        self.assertTrue(web.of_owners(["ann", "cyd"]) == web.without("men"))
        self.assertTrue(web.of_owners(("bob", "bob", "none")) == web.without("dig").without("mow"))
        self.assertTrue(web.of_owners([]) == Web(small_land(), given=web.given()))
        self.assertTrue(web.of_owners(owners=web.owners()) == web)
        self.assertEqual(Web(small_land(), small_askings(), since=1).of_owners(["cyd"]).since, 1)

    def test_lists_are_copied_and_new(self):
        askings, given = small_askings(), [(("hill", 0), 1), (("quay", 1), -1)]
        web = Web(small_land(), askings, given=given)
        self.assertEqual((askings, given), (small_askings(), [(("hill", 0), 1), (("quay", 1), -1)]))
        askings.clear()
        given.clear()
        for told in (
            web.askings, web.given, web.standings, web.places, web.owners, web.line_keys, web.line_sheets,
            lambda: web.lines_from(()), lambda: web.lines_to(("quay", 2)),
        ):
            before = told()
            self.assertNotEqual(before, [])
            told().clear()
            self.assertEqual(told(), before)
        self.assertTrue(web == small_web())

    def test_equality(self):
        web = small_web()
        given = [(("quay", 1), -1), (("hill", 0), 1), (("hill", 1), 0)]
        turned = Web(small_land(), tuple(reversed(small_askings())), given=given)
        self.assertTrue(web == turned)
        first = small_askings()[0]
        others = [
            Web(Land(2, 11, small_land().yards(), roads=small_land().roads()), small_askings(), given=web.given()),
            web.without("dig"), web.with_given(("quay", 2), 1), web.without("dig").with_asking(first.with_terms(3, 7)),
            Web(small_land(), small_askings(), given=web.given(), since=1),
        ]
        self.assertFalse(Web(small_land(), since=1) == Web(small_land(), since=2))
        for other in others + [value for value in odd_values() if not isinstance(value, Web)]:
            self.assertIs(web == other, False)
            self.assertIs(web != other, True)

    def test_what_begins_before_since_means_nothing_for_equality(self):
        for since in (1, 2, 3):
            full = Web(small_land(), small_askings(), given=[(("hill", 0), 1), (("quay", 1), -1)], since=since)
            late = [asking for asking in small_askings() if asking.begins >= since]
            self.assertTrue(full == Web(small_land(), late, given=[(("hill", 0), 7), (("quay", 1), -1)], since=since))

    def test_repr(self):
        self.assertEqual(repr(small_web()), "Web(6 standings, 21 lines)")
        self.assertEqual(repr(Web(Land(0, 1, [("a", 0, 1)]))), "Web(1 standings, 2 lines)")
        self.assertEqual(repr(wide_web()), f"Web(54 standings, {len(wide_web())} lines)")

    def test_wide_given(self):
        self.assertEqual(wide_web().given(), sorted(pair for pair in wide_given() if pair[1] != 0))
        self.assertEqual(wide_web(since=2).given(), [(("abbey", 8), -99), (("elm", 3), -2)])


if __name__ == "__main__":
    unittest.main()
