import random
import unittest

from standworth.askings import Hire, Work
from standworth.books import Books
from standworth.dues import dues
from standworth.errors import (
    AboveTop, DuplicateName, InvalidAsking, InvalidDeed, InvalidName, InvalidNumber, Missing, NothingLeft, StandError,
    TooMany, UnknownName, UnknownStanding,
)
from standworth.fitting import ends, row_of
from standworth.house import House
from standworth.lands import Land
from standworth.postings import posting
from standworth.ranges import amount_range, fate
from standworth.settled import settled_plan
from standworth.weeks import Week
from standworth.words import HABITS
from tests.reference import large_web, some_asking
from tests.samples import (
    Raising, is_one_of, odd_values, small_askings, small_land, wide_askings, wide_given, wide_land,
)

QUAY = ("quay", 0)
DIG, MEN, MOW = small_askings()


def records(books):
    return [books.record(number) for number in range(len(books))]


def state(house):
    """All that a house tells of itself but its log and its journal."""
    books = house.books()
    return (
        house.week().text(), house.habit, house.many, house.day, house.busy, house.history(), records(books), books.day,
        house.plan().amounts(), house.row().worths(), len(house), repr(house),
    )


def everything(house):
    return (state(house), house.log(), house.journal())


def small_house():
    house = House(small_land())
    house.do(("ask", DIG), ("ask", MEN))
    house.do(("ask", MOW))
    house.do(("give", ("hill", 0), 1), ("give", ("quay", 1), -1))
    return house


def wide_house():
    house = House(wide_land())
    house.do(*[("ask", asking) for asking in wide_askings()])
    house.do(*[("give", standing, many) for standing, many in wide_given()])
    return house


def wrong_deeds():
    """Values that are no deeds."""
    return [
        *odd_values(), ("ask",), ("ask", DIG, 1), ["ask", DIG], ("withdraw",), ("withdraw", "dig", "dig"),
        ("change", "dig", 1), ("change", "dig", 1, 1, 1), ("give", QUAY), ("give", *QUAY, 1), ("Ask", DIG),
        ("undo",), ("do", ("ask", DIG)), (("ask",), DIG), (["ask"], DIG), (None, DIG), (DIG, "ask"), ("ask ", DIG),
        ({}, 1), (True, 1),
    ]


class DeedsTest(Raising):
    def refuses(self, house, error, told, *deeds):
        """Refused deeds change nothing, neither done nor tried."""
        before = everything(house)
        for call in (house.do, house.tried):
            self.raises(error, told, lambda: call(*deeds))
            self.assertIs(house.busy, False)
        self.assertEqual(everything(house), before)

    def test_a_new_house(self):
        house = House(land=small_land())
        self.assertTrue(house.week() == Week(small_land()))
        self.assertEqual((house.many, house.day, house.busy, house.habit), (0, 0, False, "least"))
        self.assertEqual((house.history(), house.log(), house.journal(), len(house.books())), ((0, 0), [], [], 0))
        self.assertEqual((len(house), bool(house), repr(house), House.FIRST), (0, True, "House(0 askings)", "least"))

    def test_each_deed(self):
        house = House(small_land())
        self.assertIsNone(house.do(("ask", DIG)))
        house.do(("ask", MEN))
        house.do(("change", "dig", 5, 9))
        house.do(("give", QUAY, -4))
        house.do(("withdraw", "men"))
        week = Week(small_land(), [DIG.with_terms(5, 9)], given=[(QUAY, -4)])
        self.assertTrue(house.week() == week)
        self.assertEqual((house.many, len(house), repr(house), house.history()), (1, 1, "House(1 askings)", (5, 0)))
        self.assertTrue(house.plan() == settled_plan(week.as_web()))
        self.assertTrue(house.row() == row_of(week.as_web(), "least"))
        self.assertEqual(house.journal(), [
            ("do", (("ask", DIG),)), ("do", (("ask", MEN),)), ("do", (("change", "dig", 5, 9),)),
            ("do", (("give", QUAY, -4),)), ("do", (("withdraw", "men"),)),
        ])

    def test_deeds_build_on_one_another(self):
        house = House(small_land())
        house.do(("ask", DIG), ("change", "dig", 9, 9), ("withdraw", "dig"), ("ask", DIG), ("give", QUAY, 99),
                 ("give", QUAY, -99), ("give", QUAY, -99))
        self.assertTrue(house.week() == Week(small_land(), [DIG], given=[(QUAY, -99)]))
        self.assertEqual((house.history(), len(house.journal())), ((1, 0), 1))

    def test_all_deeds_or_none(self):
        house = small_house()
        self.refuses(house, UnknownName, ["none"], ("withdraw", "dig"), ("give", QUAY, 1), ("withdraw", "none"))
        self.refuses(house, UnknownName, ["dig"], ("withdraw", "dig"), ("withdraw", "dig"), ("ask", None))
        self.refuses(house, DuplicateName, ["new"], ("ask", Hire("new", "bob", QUAY, 1, 1)),
                     ("ask", Hire("new", "bob", QUAY, 1, 1)))
        self.refuses(house, TooMany, [99], ("give", QUAY, 60), ("give", QUAY, 40))

    def test_wrong_deeds_ahead_of_everything_else(self):
        house = small_house()
        for value in wrong_deeds():
            self.refuses(house, InvalidDeed, [0], value)
            self.refuses(house, InvalidDeed, [2], ("withdraw", "none"), ("ask", None), value, None)

    def test_errors_of_deeds(self):
        house = small_house()
        for value in odd_values():
            if not isinstance(value, (Work, Hire)):
                self.refuses(house, InvalidAsking, [3], ("ask", value))
                self.refuses(house, InvalidAsking, [2], ("withdraw", "mow"), ("ask", value))
            self.refuses(house, UnknownName, [value], ("withdraw", value))
            self.refuses(house, UnknownName, [value], ("change", value, None, None))
            if not is_one_of(value, [("quay", 1)]):
                self.refuses(house, UnknownStanding, [value], ("give", value, None))
            if not is_one_of(value, [1, 8, 9]):
                self.refuses(house, InvalidNumber, [value], ("change", "dig", value, None))
            if not is_one_of(value, [0, 1, 8, 9]):
                self.refuses(house, InvalidNumber, [value], ("change", "dig", 1, value))
            if not is_one_of(value, [0, 1, 8, 9, -1]):
                self.refuses(house, InvalidNumber, [value], ("give", QUAY, value))
        self.refuses(house, DuplicateName, ["dig"], ("ask", DIG))
        self.refuses(house, UnknownStanding, [("far", 0)], ("ask", Hire("boys", "bob", ("far", 0), 1, 99)))
        self.refuses(house, AboveTop, ["boys"], ("ask", Hire("boys", "bob", QUAY, 1, 11)))
        self.refuses(house, AboveTop, ["men"], ("change", "men", 1, 11))
        self.refuses(house, TooMany, [99], ("give", ("quay", 1), -99))
        full = wide_house()
        self.assertEqual(full.many, 24)
        self.refuses(full, TooMany, [24], ("ask", Hire("boys", "bob", ("fort", 0), 1, 0)))

    def test_a_call_without_deeds_is_no_step(self):
        house = small_house()
        house.undo()
        before = everything(house)
        self.assertIsNone(house.do())
        self.assertEqual(everything(house), before)
        self.assertEqual(house.history(), (2, 1))
        self.assertEqual(house.tried(), house.week().text())

    def test_deeds_that_change_nothing_are_a_step(self):
        house = small_house()
        house.undo()
        house.do(("give", QUAY, 0))
        self.assertEqual(house.history(), (3, 0))
        house.do(("change", "dig", 3, 6))
        self.assertEqual((house.history(), len(house.journal())), ((4, 0), 6))

    def test_tried(self):
        house = small_house()
        before = everything(house)
        text = house.tried(("withdraw", "dig"), ("give", QUAY, 5))
        self.assertEqual(everything(house), before)
        house.do(("withdraw", "dig"), ("give", QUAY, 5))
        self.assertEqual(house.week().text(), text)


class HistoryTest(Raising):
    def test_undo_and_redo(self):
        house = House(small_land())
        texts = [house.week().text()]
        for deed in [("ask", DIG), ("give", QUAY, 3), ("change", "dig", 1, 1), ("withdraw", "dig")]:
            house.do(deed)
            texts.append(house.week().text())
        for at in (3, 2, 1, 0):
            self.assertIsNone(house.undo())
            self.assertEqual((house.week().text(), house.history()), (texts[at], (at, 4 - at)))
        self.nothing_left(house, house.undo)
        for at in (1, 2, 3, 4):
            self.assertIsNone(house.redo())
            self.assertEqual((house.week().text(), house.history()), (texts[at], (at, 4 - at)))
        self.nothing_left(house, house.redo)
        self.assertEqual(house.journal()[4:], [("undo",)] * 4 + [("redo",)] * 4)

    def nothing_left(self, house, call):
        before = everything(house)
        with self.assertRaises(NothingLeft) as caught:
            call()
        self.assertEqual(caught.exception.code, "NothingLeft")
        self.assertEqual(everything(house), before)

    def test_another_step_ends_what_can_be_redone(self):
        house = small_house()
        house.undo()
        house.undo()
        self.assertEqual(house.history(), (1, 2))
        with self.assertRaises(UnknownName):
            house.do(("withdraw", "mow"))
        house.tried(("withdraw", "dig"))
        house.choose("middle")
        house.square()
        house.next_day()
        self.assertEqual(house.history(), (1, 2))
        house.do(("withdraw", "men"))
        self.assertEqual(house.history(), (2, 0))
        self.nothing_left(house, house.redo)

    def test_undo_leaves_habit_books_and_day(self):
        house = small_house()
        house.do(("withdraw", "dig"))
        house.habit = "greatest"
        house.square()
        house.next_day()
        books = records(house.books())
        house.undo()
        self.assertEqual((house.habit, records(house.books()), house.day), ("greatest", books, 1))
        house.redo()
        self.assertEqual((house.habit, records(house.books()), house.day), ("greatest", books, 1))

    def test_new_houses(self):
        house = House(small_land())
        self.nothing_left(house, house.undo)
        self.nothing_left(house, house.redo)


class HabitTest(Raising):
    def test_habits(self):
        house = small_house()
        for habit in HABITS:
            self.assertIsNone(house.choose(habit=habit))
            self.assertEqual(house.habit, habit)
            self.assertTrue(house.row() == row_of(house.week().as_web(), habit))
            house.habit = "least"
            house.habit = habit
            self.assertEqual(house.habit, habit)
        self.assertEqual(house.journal()[3:6], [("choose", "least")] * 3)
        self.assertEqual(len(house.journal()), 3 + 9)

    def test_wrong_habits(self):
        house = small_house()
        house.choose("middle")
        before = everything(house)

        def assign(value):
            house.habit = value

        for value in odd_values() + ["Least", ["least"], ("least",), "least "]:
            self.raises(InvalidName, [value], lambda: house.choose(value))
            self.raises(InvalidName, [value], lambda: assign(value))
        self.assertEqual(everything(house), before)

    def test_other_properties_are_not_assigned(self):
        house = small_house()
        for name in ("many", "day", "busy"):
            with self.assertRaises(AttributeError):
                setattr(house, name, 5)


class SquareTest(Raising):
    def test_squares(self):
        for house in (small_house(), wide_house()):
            for habit in HABITS:
                house.choose(habit)
                web = house.week().as_web()
                rows = posting(settled_plan(web), row_of(web, habit))
                twin = house.books()
                self.assertEqual(house.square(), twin.square(rows))
                self.assertEqual(records(house.books()), records(twin))
                self.assertEqual(house.square(), (0, 0))
                self.assertIsNone(house.next_day())
                alone = Books()
                alone.square(rows)
                told = house.books().trial()
                self.assertEqual({key: told[key] for key in told if told[key]},
                                 {key: many for key, many in alone.trial().items() if many})
            self.assertEqual(house.day, 3)

    def test_behind_other_deeds(self):
        house = small_house()
        house.square()
        house.next_day()
        house.do(("withdraw", "dig"), ("give", QUAY, 2))
        reversals, others = house.square()
        self.assertGreater(min(reversals, others), 0)
        books = house.books()
        self.assertEqual(books.keys_in_force(), list(house.plan().amounts()))
        for place in house.week().land.standings():
            wanted = house.week().given_at(place) * house.row().worth(place)
            self.assertEqual(books.balance(f"{place[0]} {place[1]}"), wanted)


class SayTest(Raising):
    def test_the_example(self):
        house = House(Land(1, 10, [("quay", 0, None)]))
        house.do(("ask", Work("dig", "ann", QUAY, ("quay", 1), 1, 6)), ("ask", Hire("men", "bob", QUAY, 1, 3)))
        told = [house.square(), house("due ann"), house("balance ann"), house("balance bob"), house("ends quay 0")]
        self.assertEqual([*told, house.history()], [(0, 3), "3", "-3", "3", "3 6", (1, 0)])

    def check_words(self, house):
        week = house.week()
        web, plan, row = week.as_web(), house.plan(), house.row()
        wanted = {
            "gain": plan.gain, "many": len(week), "day": house.day, "habit": house.habit, "crews": plan.begun,
        }
        for asking in week.askings():
            least, greatest = amount_range(web, asking.key)
            wanted[f"amount {asking.name}"] = plan.amount(asking.key)
            wanted[f"range {asking.name}"] = f"{least} {greatest}"
            wanted[f"fate {asking.name}"] = fate(web, asking.key)
        for place in web.standings():
            least, greatest = ends(web)[place]
            wanted[f"worth {place[0]} {place[1]}"] = row.worth(place)
            wanted[f"ends {place[0]} {place[1]}"] = f"{least} {greatest}"
        for owner in web.owners():
            wanted[f"due {owner}"] = dues(plan, row)[owner]
            wanted[f"balance {owner}"] = house.books().balance(owner)
        journal = house.journal()
        for line, answer in wanted.items():
            self.assertEqual(house.say(line), str(answer), line)
        self.assertEqual(house.journal(), journal)

    def test_words(self):
        for house in (House(small_land()), small_house(), wide_house()):
            for habit in HABITS:
                house.choose(habit)
                self.check_words(house)
                house.square()
                house.next_day()
            self.check_words(house)

    def test_words_of_large_weeks(self):
        for seed in range(2):
            web = large_web(seed)
            house = House(web.land)
            house.do(*[("ask", asking) for asking in web.askings()], *[("give", *pair) for pair in web.given()])
            house.square()
            self.check_words(house)

    def test_doing(self):
        house = small_house()
        lines = ["withdraw dig", "give quay 0 5", "give hill 2 -3", "give hill 2 0", "undo", "redo", "square", "next"]
        self.assertEqual([house(line) for line in lines], ["done"] * 8)
        self.assertEqual(house.journal()[3:], [
            ("do", (("withdraw", "dig"),)), ("do", (("give", QUAY, 5),)), ("do", (("give", ("hill", 2), -3),)),
            ("do", (("give", ("hill", 2), 0),)), ("undo",), ("redo",), ("square",), ("day",),
        ])
        self.assertEqual((house.many, house.day, house.history()), (2, 1, (7, 0)))
        self.assertEqual(house.week().given(), [(("hill", 0), 1), (("hill", 2), -3), (QUAY, 5), (("quay", 1), -1)])
        self.assertEqual(house.books().keys_in_force(), list(house.plan().amounts()))
        self.assertEqual(house.say(line="day"), "1")
        self.assertEqual(house(line="day"), "1")

    def test_log(self):
        house = small_house()
        lines = ["many", "nothing", "withdraw none", "next", "", "give quay 0 5", "balance ann\n"]
        answers = [house(line) for line in lines]
        self.assertEqual(answers, ["3", "unknown", "error UnknownName", "done", "unknown", "done", "unknown"])
        self.assertEqual(house.log(), list(zip(lines, answers)))
        house.log().clear()
        self.assertEqual(len(house.log()), 7)

    def test_errors(self):
        house = small_house()
        before = (state(house), house.journal())
        wanted = {
            "amount none": "UnknownName", "range none": "UnknownName", "fate ann": "UnknownName", "due none": "UnknownName",
            "due dig": "UnknownName", "withdraw none": "UnknownName", "worth far 0": "UnknownStanding",
            "worth quay 3": "UnknownStanding", "ends far 0": "UnknownStanding", "ends quay 8": "UnknownStanding",
            "give far 0 5": "UnknownStanding", "give quay 3 1000": "UnknownStanding", "give quay 0 100": "InvalidNumber",
            "give quay 0 -100": "InvalidNumber", "give quay 0 999999999": "InvalidNumber",
            "give quay 0 -999999999": "InvalidNumber", "give quay 1 -99": "TooMany", "redo": "NothingLeft",
        }
        for line, code in wanted.items():
            self.assertEqual(house(line), f"error {code}", line)
        self.assertEqual((state(house), house.journal()), before)
        self.assertEqual(House(small_land())("undo"), "error NothingLeft")

    def test_balance_answers_each_owner(self):
        house = small_house()
        house.square()
        self.assertEqual((house("balance nobody"), house("balance dig"), house("balance quay")), ("0", "0", "0"))
        house.do(("withdraw", "dig"))
        self.assertEqual((house("due ann"), house("balance ann")), ("error UnknownName", str(house.books().balance("ann"))))
        self.assertNotEqual(house("balance ann"), "0")

    def test_unknown_lines(self):
        house = small_house()
        before = (state(house), house.journal())
        lines = [
            "", " ", "gain ", " gain", "gain\n", "\ngain", "Gain", "gains", "gain gain", "many 1", "day 0", "habit least",
            "crews dig", "amount", "amount ", "amount  dig", "amount dig ", "amount Dig", "amount seventh", "amount 1",
            "amount dig mow", "amount dig\n", "range", "fate", "fate dig\n", "worth quay", "worth quay 9", "worth quay 00",
            "worth quay -1", "worth quay 0 0", "worth Quay 0", "worth 0 quay", "worth  quay 0", "worth quay 0\n", "ends",
            "ends quay 10", "ends quay x", "due", "due ", "due Ann", "balance", "balance ", "balance quay 0",
            "balance Ann", "withdraw", "withdraw Dig", "withdraw dig mow", "give quay 0", "give quay 0 +5",
            "give quay 0 05", "give quay 0 -0", "give quay 0 -", "give quay 0 --5", "give quay 0 1000000000",
            "give quay 0 -1000000000", "give quay 0 5 5", "give quay 9 5", "give quay 0 x", "give quay 0 -05",
            "give quay 0 5\n", "undo 1", "redo ", "square 1", "next 1", "next\nnext", "ask", "change dig 1 1", "choose least",
            "do", "undo\n", "-", "0", "error", "unknown", "done", "give  0 5", "give quay 0 ", "give quay 0 5-",
        ]
        for line in lines:
            self.assertEqual(house.say(line), "unknown", repr(line))
        self.assertEqual((state(house), house.journal()), before)
        self.assertEqual([line for line, _ in house.log()], lines)


class JournalTest(Raising):
    def random_call(self, luck, house):
        """A call that may be refused."""
        names = [asking.name for asking in house.week().askings()] + ["none"]
        land = house.week().land
        deeds = [
            ("ask", some_asking(luck, land, luck.randrange(26), crews=4, price=9)), ("withdraw", luck.choice(names)),
            ("change", luck.choice(names), luck.randrange(5), luck.randrange(9)),
            ("give", luck.choice(land.standings()), luck.randrange(-40, 40)),
        ]
        word = luck.choice(["do", "do", "do", "undo", "redo", "choose", "assign", "square", "day", "say", "say", "try"])
        try:
            if word == "do":
                house.do(*luck.choices(deeds, k=luck.randrange(3)))
            elif word == "assign":
                house.habit = luck.choice([*HABITS, "none"])
            elif word == "choose":
                house.choose(luck.choice([*HABITS, "none"]))
            elif word == "say":
                house(luck.choice(["undo", "redo", "square", "next", "gain", f"withdraw {luck.choice(names)}",
                                   f"give quay 0 {luck.randrange(-50, 50)}", "nothing"]))
            elif word == "try":
                house.tried(*luck.choices(deeds, k=2))
            else:
                {"undo": house.undo, "redo": house.redo, "square": house.square, "day": house.next_day}[word]()
        except (StandError, Missing, NothingLeft):
            return False
        return True

    def test_played(self):
        for seed in range(25):
            luck = random.Random(seed)
            land = Land(seed % 4, 9, [("quay", 1, 3), ("hill", 0, None)], roads=[("quay", "hill", 1, 2)])
            house = House(land)
            refused = 0
            for _ in range(40):
                before = everything(house)
                if not self.random_call(luck, house):
                    refused += 1
                    self.assertEqual(everything(house), before)
                self.assertIs(house.busy, False)
            self.assertGreater(refused, 0)
            for journal in (house.journal(), tuple(house.journal())):
                other = House.played(land, journal)
                self.assertIsInstance(other, House)
                self.assertTrue(other == house)
                self.assertEqual(state(other), state(house))
                self.assertEqual((other.journal(), other.log()), (house.journal(), []))

    def test_played_on_wide_lands(self):
        house = wide_house()
        house.square()
        house.undo()
        house.next_day()
        house.choose("middle")
        house.square()
        other = House.played(land=wide_land(), journal=house.journal())
        self.assertEqual(state(other), state(house))
        self.assertEqual(House.played(wide_land(), []).journal(), [])

    def test_wrong_journals(self):
        land = small_land()
        for value in odd_values():
            if not isinstance(value, (list, tuple)):
                self.raises(InvalidDeed, [-1], lambda: House.played(land, value))
        good = ("do", (("ask", DIG),))
        wrong = [
            *odd_values(), ("do",), ("do", ()), ("do", [("ask", DIG)]), ("do", ("ask", DIG)), ("do", (("ask", DIG),), 1),
            ("do", None), ["do", (("ask", DIG),)], ("undo", 1), ("redo", None), ["undo"], "undo", ("square", ()), ("day", 1),
            ("choose",), ("choose", "none"), ("choose", None), ("choose", ["least"]), ("choose", "least", 1), ("next",),
            ("redo", (("ask", DIG),)), ("make", (("ask", DIG),)), ("choose", (("ask", DIG),)), (None, (("ask", DIG),)),
            ("say", "gain"), ("Undo",), ("undo ",), (None,), (["undo"],), ({},), (DIG,), ("ask", DIG), ("withdraw", "dig"),
            *[("do", (deed,)) for deed in wrong_deeds()], *[("do", (("ask", DIG), deed)) for deed in wrong_deeds()],
        ]
        for value in wrong:
            self.raises(InvalidDeed, [0], lambda: House.played(land, [value]))
            self.raises(InvalidDeed, [2], lambda: House.played(land, (good, ("redo",), value, None)))

    def test_errors_of_the_calls(self):
        land = small_land()
        good = ("do", (("ask", DIG),))
        self.raises(DuplicateName, ["dig"], lambda: House.played(land, [good, good]))
        self.raises(InvalidAsking, [0], lambda: House.played(land, [("do", (("ask", None),))]))
        self.raises(UnknownName, ["dig"], lambda: House.played(land, [("do", (("withdraw", "dig"),)), ("undo",)]))
        self.raises(InvalidNumber, [100], lambda: House.played(land, [("do", (("give", QUAY, 100),))]))
        for journal in ([("undo",)], [good, ("redo",)], [good, ("undo",), ("undo",)], [good, ("undo",), good, ("redo",)]):
            with self.assertRaises(NothingLeft):
                House.played(land, journal)

    def test_journals_are_new(self):
        house = small_house()
        before = everything(house)
        house.journal().clear()
        self.assertEqual(everything(house), before)
        journal = house.journal()
        other = House.played(small_land(), journal)
        journal.clear()
        self.assertEqual(len(other.journal()), 3)


class SharingTest(Raising):
    def test_what_is_told_is_new(self):
        house = small_house()
        house.square()
        before = everything(house)
        house.week().withdraw("dig")
        house.books().square([])
        house.books().next_day()
        house.plan().amounts().clear()
        house.row().worths().clear()
        self.assertEqual(everything(house), before)
        week, books = house.week(), house.books()
        told = week.text(), records(books)
        house.do(("withdraw", "dig"))
        house.square()
        self.assertEqual((week.text(), records(books)), told)

    def test_twins(self):
        house = small_house()
        house("square")
        house.undo()
        house.choose("greatest")
        before = everything(house)
        twin = house.twin()
        self.assertIsInstance(twin, House)
        self.assertEqual(everything(twin), before)
        self.assertTrue(twin == house)
        twin.redo()
        twin.do(("withdraw", "dig"))
        twin.square()
        twin.next_day()
        twin.choose("middle")
        twin("gain")
        self.assertEqual(everything(house), before)
        behind = everything(twin)
        house.undo()
        house.do(("give", QUAY, 7))
        house.square()
        house("many")
        self.assertEqual(everything(twin), behind)
        other = house.twin()
        while other.history()[0]:
            other.undo()
        self.assertEqual(house.history(), (2, 0))

    def test_equality(self):
        house, other = small_house(), House(small_land())
        self.assertFalse(house == other)
        other.do(("give", ("quay", 1), -1), ("give", ("hill", 0), 1), *[("ask", asking) for asking in (MOW, DIG, MEN)])
        self.assertTrue(house == other)
        other.square()
        other.next_day()
        other("gain")
        self.assertTrue(house == other)
        self.assertFalse(house != other)
        other.choose("middle")
        self.assertFalse(house == other)
        house.choose("middle")
        self.assertTrue(house == other)
        house.do(("give", QUAY, 1))
        self.assertFalse(house == other)
        self.assertFalse(House(small_land()) == House(Land(2, 11, [("quay", 1, 4)])))
        for value in [*odd_values(), house.week()]:
            self.assertIs(house == value, False)


if __name__ == "__main__":
    unittest.main()
