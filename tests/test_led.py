import random
import unittest

from standworth.askings import Hire, Work
from standworth.best import best_gain, is_best
from standworth.books import Books
from standworth.errors import (
    AboveTop, DuplicateName, InvalidAsking, InvalidName, InvalidNumber, Missing, Over, StandError, TooMany,
    UnknownName, UnknownStanding,
)
from standworth.fitting import fits, row_of
from standworth.lands import Land
from standworth.led import Led
from standworth.postings import posting
from standworth.settled import settled_plan
from standworth.webs import Web
from standworth.weeks import Week
from standworth.words import HABITS
from standworth.worths import Worths
from tests.reference import large_web, some_asking, tiny_land, tiny_web
from tests.samples import Raising, is_one_of, odd_values, small_askings, small_land, wide_land, wide_week

QUAY, DIG = ("quay", 0), ("work", "dig")


def records(books):
    return [books.record(number) for number in range(len(books))]


def state(led):
    """All that a led week tells of itself."""
    books = led.books()
    return (
        led.hour, led.ended, led.gain, led.row_habit, led.known().text(), led.plan().amounts(), led.row().worths(),
        led.lost(), records(books), books.day, led.rest().given(), repr(led),
    )


def week_of(web):
    given = [(place, max(-99, min(99, many))) for place, many in web.given()]
    return Week(web.land, web.askings(), given=given)


def some_weeks():
    """Weeks of small lands and of large ones."""
    for seed in range(25):
        yield week_of(tiny_web(seed, yards=3, last=4, top=6, askings=6))
    for seed in range(2):
        yield week_of(large_web(seed))
    yield wide_week()


def small_led(habit="least"):
    return Led(Week(small_land(), small_askings(), given=[(("hill", 0), 1), (("quay", 1), -1)]), habit=habit)


def begins(sheet):
    return (sheet[1] or sheet[2])[1]


class Watched:
    """A led week, with what the document says that it must be, found by other ways."""

    def __init__(self, test, week, habit):
        self.test = test
        self.led = Led(week, habit=habit)
        self.week = week.twin()
        self.hour = 0
        self.gone = {}
        self.posted = []
        self.row = row_of(week.as_web(), habit)
        self.check()

    def rest_by_words(self):
        web = self.week.as_web()
        given = {place: self.week.given_at(place) for place in self.week.land.standings()}
        for key, amount in self.gone.items():
            end = web.line_sheet(key)[2]
            if end:
                given[end] += amount
        askings = [asking for asking in self.week.askings() if asking.begins >= self.hour]
        return Web(self.week.land, askings, given=list(given.items()), since=self.hour)

    def check(self):
        led, test = self.led, self.test
        rest = self.rest_by_words()
        settled = settled_plan(rest)
        test.assertTrue(led.known() == self.week)
        test.assertTrue(led.rest() == rest)
        test.assertTrue(led.plan().web == self.week.as_web())
        test.assertEqual(led.plan().amounts(), {**self.gone, **settled.amounts()})
        test.assertTrue(led.row() == self.row)
        test.assertTrue(fits(settled, led.row()))
        test.assertEqual((led.hour, led.gain), (self.hour, led.plan().gain))
        test.assertIs(led.ended, self.hour > self.week.land.last)
        test.assertEqual(repr(led), f"Led(hour {self.hour})")
        test.assertEqual(records(led.books()), self.posted)
        test.assertEqual(led.books().day, self.hour)
        lost = led.lost()
        test.assertEqual(lost, best_gain(self.week.as_web()) - led.plan().gain)
        test.assertGreaterEqual(lost, 0)
        test.assertIs(lost == 0, is_best(led.plan()))

    def go(self):
        web, lost, plan = self.week.as_web(), self.led.lost(), self.led.plan()
        for key, amount in plan.amounts().items():
            sheet = web.line_sheet(key)
            if begins(sheet) == self.hour:
                self.gone[key] = amount
                self.posted.append((len(self.posted), key, self.hour, self.hour, None, self.entries(sheet, amount)))
        self.test.assertIsNone(self.led.go())
        self.hour += 1
        self.row = self.row.part(self.hour)
        self.check()
        self.test.assertEqual(self.led.lost(), lost)
        self.test.assertTrue(self.led.plan() == plan)

    def entries(self, sheet, amount):
        start, end = [self.row.worth(place) for place in sheet[1:3]]
        told = {sheet[5]: amount * (end - start)}
        for place, many in ((sheet[1], amount * start), (sheet[2], -amount * end)):
            if place:
                told[f"{place[0]} {place[1]}"] = many
        return tuple(sorted(told.items()))

    def hear(self, word, *told):
        """News; what is refused changes nothing."""
        before = state(self.led)
        week = self.week.twin()
        try:
            if word == "ask":
                week.ask(*told)
                hour = told[0].begins
            elif word == "give":
                week.give(*told)
                hour = told[0][1]
            else:
                hour = week.asking(told[0]).begins
                week.withdraw(*told) if word == "withdraw" else week.change(*told)
        except (StandError, Missing) as refused:
            with self.test.assertRaises(refused.__class__):
                self.call(word, told)
            self.test.assertEqual(state(self.led), before)
            return
        if hour < self.hour:
            self.test.raises(Over, [hour], lambda: self.call(word, told))
            self.test.assertEqual(state(self.led), before)
            return
        self.test.assertIsNone(self.call(word, told))
        self.week = week
        self.row = row_of(self.rest_by_words(), self.led.row_habit)
        self.check()

    def call(self, word, told):
        if word == "ask":
            return self.led.ask(*told)
        if word == "withdraw":
            return self.led.withdraw(*told)
        return self.led.change(*told) if word == "change" else self.led.give(*told)


class NoNewsTest(Raising):
    def test_without_news(self):
        for at, week in enumerate(some_weeks()):
            habit = HABITS[at % 3]
            settled, row = settled_plan(week.as_web()), row_of(week.as_web(), habit)
            watched = Watched(self, week, habit)
            for _ in range(week.land.last + 1):
                self.assertTrue(watched.led.plan() == settled)
                self.assertEqual(watched.led.lost(), 0)
                watched.go()
            self.assertIs(watched.led.ended, True)
            alone = Books()
            alone.square(posting(settled, row))
            self.assertEqual(watched.led.books().trial(), alone.trial())
            self.raises(Over, [week.land.last + 1], watched.led.go)
            watched.check()

    def test_the_settled_plan_of_the_next_rest_web(self):
        for week in some_weeks():
            led = Led(week)
            while not led.ended:
                before = settled_plan(led.rest()).amounts()
                led.go()
                web = led.rest()
                self.assertEqual(settled_plan(web).amounts(), {key: before[key] for key in before if web.has_line(key)})

    def test_a_land_whose_last_hour_is_0(self):
        land = Land(0, 5, [("quay", 0, None)])
        led = Led(Week(land, [Hire("men", "bob", QUAY, 2, 1)], given=[(QUAY, -1)]), habit="middle")
        self.assertEqual((led.hour, led.ended, led.gain, led.row().worths()), (0, False, -1, {QUAY: 1}))
        led.go()
        self.assertEqual((led.hour, led.ended, led.gain, led.row().worths()), (1, True, -1, {}))
        self.assertEqual(records(led.books()), [(0, ("hire", "men"), 0, 0, None, (("bob", 1), ("quay 0", -1)))])
        self.assertEqual((led.rest().line_keys(), led.books().day), ([], 1))
        self.raises(Over, [1], led.go)
        self.raises(Over, [0], lambda: led.give(QUAY, 1))
        self.raises(Over, [0], lambda: led.withdraw("men"))
        self.raises(Over, [0], lambda: led.change("men", 1, 1))
        self.raises(Over, [0], lambda: led.ask(Hire("more", "bob", QUAY, 2, 1)))
        self.assertEqual(led.lost(), 0)

    def test_a_week_without_anything(self):
        led = Led(Week(small_land()))
        self.assertEqual((led.gain, led.plan().amounts(), len(led.books())), (0, {}, 0))
        for hour in range(3):
            self.assertEqual((led.hour, led.ended), (hour, False))
            led.go()
        self.assertEqual((led.ended, led.books().day, len(led.books())), (True, 3, 0))


class NewsTest(Raising):
    def test_the_example(self):
        land = Land(2, 10, [("quay", 0, None)])
        dig = Work("dig", "ann", QUAY, ("quay", 1), 1, 6)
        led = Led(Week(land, [dig, Hire("men", "bob", QUAY, 1, 3), Hire("more", "bob", QUAY, 1, 2)]))
        self.assertEqual((led.gain, led.lost()), (4, 0))
        led.go()
        led.ask(Work("fill", "ann", ("quay", 1), ("quay", 2), 2, 4))
        self.assertEqual((led.gain, led.lost(), led.plan().amount(("work", "fill"))), (8, 1, 1))
        self.assertEqual(led.row().worths(), {("quay", 1): 4, ("quay", 2): 0})

    def random_news(self, luck, watched):
        land = watched.week.land
        names = [asking.name for asking in watched.week.askings()] + ["none"]
        kind = luck.choice(["ask", "ask", "withdraw", "change", "give", "give"])
        if kind == "ask":
            watched.hear("ask", some_asking(luck, land, luck.randrange(26), crews=3, price=9))
        elif kind == "withdraw":
            watched.hear("withdraw", luck.choice(names))
        elif kind == "change":
            watched.hear("change", luck.choice(names), luck.randrange(-1, 6), luck.randrange(9))
        else:
            watched.hear("give", luck.choice(land.standings()), luck.randrange(-3, 4))

    def test_random_news(self):
        lost = 0
        for seed in range(30):
            luck = random.Random(seed)
            land = tiny_land(luck, 1 + seed % 3, 1 + seed % 4, 7)
            week = Week(land, [some_asking(luck, land, at, crews=3, price=7) for at in range(4)])
            watched = Watched(self, week, HABITS[seed % 3])
            while not watched.led.ended:
                for _ in range(luck.randrange(5)):
                    self.random_news(luck, watched)
                lost += watched.led.lost() > 0
                watched.go()
            for _ in range(4):
                self.random_news(luck, watched)
        self.assertGreater(lost, 10)

    def test_random_news_on_large_weeks(self):
        for seed in range(2):
            luck = random.Random(seed)
            watched = Watched(self, week_of(large_web(seed, askings=18)), HABITS[seed])
            for _ in range(9):
                for _ in range(2):
                    self.random_news(luck, watched)
                watched.go()

    def test_news_that_changes_nothing_makes_a_new_kept_row(self):
        """At first another crew can be hired for one that is called away; once the hire is gone, the work is lost."""
        land = Land(2, 10, [("quay", 0, None)])
        week = Week(land, [Hire("men", "bob", QUAY, 2, 3), Work("dig", "ann", ("quay", 1), ("quay", 2), 1, 8)])
        led = Led(week, habit="greatest")
        self.assertEqual(led.row().worths(), {QUAY: 3, ("quay", 1): 3, ("quay", 2): 0})
        led.go()
        plan, kept = led.plan(), {("quay", 1): 3, ("quay", 2): 0}
        self.assertEqual(led.row().worths(), kept)
        led.give(("quay", 2), 0)
        self.assertTrue(led.plan() == plan)
        self.assertEqual(led.row().worths(), {("quay", 1): 8, ("quay", 2): 0})
        led.change("dig", 1, 8)
        self.assertEqual(led.row().worths(), {("quay", 1): 8, ("quay", 2): 0})

    def test_a_new_kept_row_differs_where_the_rest_web_has_more_fitting_rows(self):
        """What is gone holds the rows of the whole week, but no longer those of the rest web."""
        differ = 0
        for seed in range(40):
            week = week_of(tiny_web(seed, yards=2, last=3, top=6, askings=5))
            for habit in HABITS:
                led = Led(week, habit=habit)
                while not led.ended:
                    standing = led.known().land.standings(led.hour)[0]
                    plan, kept = led.plan(), led.row()
                    led.give(standing, 0)
                    self.assertTrue(led.plan() == plan)
                    self.assertTrue(led.row() == row_of(led.rest(), habit))
                    differ += led.row() != kept
                    led.go()
        self.assertGreater(differ, 5)

    def test_crews_that_fall_sick_are_called_away_where_they_come(self):
        land = Land(2, 9, [("quay", 0, None)])
        led = Led(Week(land, [Work("dig", "ann", QUAY, ("quay", 2), 2, 9), Hire("men", "bob", QUAY, 2, 1)]))
        self.assertEqual(led.gain, 16)
        led.go()
        led.give(("quay", 2), -1)
        self.assertEqual((led.gain, led.rest().given_at(("quay", 2)), led.lost()), (16, 1, 0))
        led.give(("quay", 2), -2)
        self.assertEqual((led.gain, led.rest().given_at(("quay", 2)), led.lost()), (7, -1, 0))


class ErrorsTest(Raising):
    def refuses(self, led, error, told, call):
        before = state(led)
        self.raises(error, told, call)
        self.assertEqual(state(led), before)

    def test_habits(self):
        week = Week(small_land())
        for value in odd_values() + ["Least", ["least"], ("least",)]:
            self.raises(InvalidName, [value], lambda: Led(week, habit=value))
        for habit in HABITS:
            self.assertEqual(Led(week=week, habit=habit).row_habit, habit)
        self.assertEqual(Led(week).row_habit, "least")

    def test_wrong_askings(self):
        led = small_led()
        led.go()
        for value in odd_values():
            if not isinstance(value, (Work, Hire)):
                self.refuses(led, InvalidAsking, [3], lambda: led.ask(value))
        self.refuses(led, DuplicateName, ["dig"], lambda: led.ask(Hire("dig", "bob", ("far", 0), 1, 99)))
        self.refuses(led, UnknownStanding, [("far", 0)], lambda: led.ask(Hire("boys", "bob", ("far", 0), 1, 99)))
        self.refuses(led, AboveTop, ["boys"], lambda: led.ask(Hire("boys", "bob", QUAY, 1, 11)))
        self.refuses(led, Over, [0], lambda: led.ask(Hire("boys", "bob", QUAY, 1, 10)))
        self.refuses(led, Over, [0], lambda: led.ask(Work("boys", "bob", QUAY, ("quay", 2), 1, 10)))
        self.assertIsNone(led.ask(asking=Hire("boys", "bob", ("quay", 1), 1, 10)))
        full = Led(wide_week())
        full.go()
        self.refuses(full, TooMany, [24], lambda: full.ask(Hire("boys", "bob", ("fort", 0), 1, 0)))
        self.refuses(full, InvalidAsking, [24], lambda: full.ask(None))

    def test_wrong_names(self):
        led = small_led()
        led.go()
        for value in odd_values() + ["di", ("dig",), ["dig"]]:
            self.refuses(led, UnknownName, [value], lambda: led.withdraw(value))
            self.refuses(led, UnknownName, [value], lambda: led.change(value, None, None))
        for name in ("dig", "men"):
            self.refuses(led, Over, [0], lambda: led.withdraw(name))
            self.refuses(led, Over, [0], lambda: led.change(name, 1, 1))
        for value in odd_values() + [0, 100]:
            if not is_one_of(value, [1, 8, 9]):
                self.refuses(led, InvalidNumber, [value], lambda: led.change("dig", value, None))
        for value in odd_values() + [1000, -1]:
            if not is_one_of(value, [0, 1, 8, 9]):
                self.refuses(led, InvalidNumber, [value], lambda: led.change("dig", 1, value))
        self.refuses(led, AboveTop, ["men"], lambda: led.change("men", 1, 11))
        self.assertIsNone(led.change(name="mow", crews=2, price=999))
        self.assertIsNone(led.withdraw(name="mow"))
        self.refuses(led, UnknownName, ["mow"], lambda: led.withdraw("mow"))

    def test_wrong_given_crews(self):
        led = small_led()
        led.go()
        for value in odd_values() + [(), ("quay", 3), ("quay", True)]:
            if not is_one_of(value, [("quay", 1)]):
                self.refuses(led, UnknownStanding, [value], lambda: led.give(value, None))
        for value in odd_values() + [100, -100]:
            if not is_one_of(value, [0, 1, -1, 8, 9]):
                self.refuses(led, InvalidNumber, [value], lambda: led.give(QUAY, value))
        self.refuses(led, TooMany, [99], lambda: led.give(("hill", 0), 99))
        self.refuses(led, Over, [0], lambda: led.give(("hill", 0), 98))
        self.refuses(led, Over, [0], lambda: led.give(QUAY, 0))
        self.refuses(led, TooMany, [99], lambda: led.give(("quay", 1), -99))
        self.assertIsNone(led.give(standing=("quay", 1), many=-98))
        self.assertEqual(led.known().given_at(("quay", 1)), -99)

    def test_behind_the_last_hour(self):
        led = small_led("middle")
        for _ in range(3):
            led.go()
        self.refuses(led, Over, [3], led.go)
        self.refuses(led, Over, [1], lambda: led.withdraw("mow"))
        self.refuses(led, Over, [2], lambda: led.give(("quay", 2), 1))
        self.refuses(led, Over, [2], lambda: led.ask(Hire("boys", "bob", ("quay", 2), 1, 1)))
        self.refuses(led, UnknownName, ["boys"], lambda: led.withdraw("boys"))
        self.assertTrue(led.row() == Worths({}))
        self.assertEqual((led.rest().standings(), led.rest().since), ([], 3))


class SharingTest(Raising):
    def test_the_week_is_kept_as_a_twin(self):
        week = Week(small_land(), small_askings())
        led = Led(week)
        before = state(led)
        week.withdraw("dig")
        week.give(QUAY, 5)
        self.assertEqual(state(led), before)
        here = week.text()
        led.withdraw("men")
        self.assertEqual(week.text(), here)

    def test_what_is_told_is_new(self):
        led = small_led()
        led.go()
        before = state(led)
        led.known().withdraw("dig")
        led.books().square([])
        led.books().next_day()
        led.plan().amounts().clear()
        led.row().worths().clear()
        self.assertEqual(state(led), before)
        told = led.known(), led.books(), led.plan(), led.row()
        here = told[0].text(), records(told[1]), told[2].amounts(), told[3].worths()
        led.withdraw("mow")
        led.go()
        self.assertEqual((told[0].text(), records(told[1]), told[2].amounts(), told[3].worths()), here)

    def test_twins_share_nothing(self):
        for habit in HABITS:
            led = small_led(habit)
            led.go()
            led.give(("hill", 1), 2)
            twin = led.twin()
            before = state(led)
            self.assertIsInstance(twin, Led)
            self.assertEqual(state(twin), before)
            twin.withdraw("mow")
            twin.go()
            self.assertEqual(state(led), before)
            behind = state(twin)
            led.give(("quay", 2), 4)
            led.go()
            led.go()
            self.assertEqual(state(twin), behind)
            other = small_led(habit)
            other.go()
            other.give(("hill", 1), 2)
            other.give(("quay", 2), 4)
            other.go()
            other.go()
            self.assertEqual(state(led), state(other))

    def test_a_twin_keeps_a_row_of_old(self):
        """The twin has the kept row, and not the one that news would make."""
        for seed in range(25):
            led = Led(week_of(tiny_web(seed, yards=2, last=3, top=6, askings=5)), habit="greatest")
            while not led.ended:
                led.go()
                self.assertEqual(state(led.twin()), state(led))

    def test_properties_are_not_assigned(self):
        led = small_led()
        for name in ("hour", "ended", "gain"):
            with self.assertRaises(AttributeError):
                setattr(led, name, 5)

    def test_wide_lands(self):
        led = Led(wide_week(), habit="middle")
        self.assertEqual(led.known().land.last, wide_land().last)
        while not led.ended:
            led.go()
        self.assertEqual((led.hour, repr(led)), (9, "Led(hour 9)"))
        self.assertEqual(sum(led.books().trial().values()), 0)


if __name__ == "__main__":
    unittest.main()
