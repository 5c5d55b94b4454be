"""Lands, askings, webs, weeks and odd values that several tests use."""

import random
import unittest

from standworth.askings import Hire, Work
from standworth.books import Books
from standworth.house import House
from standworth.kept import Kept
from standworth.lands import Land
from standworth.led import Led
from standworth.lending import Lending
from standworth.plans import Plan
from standworth.rotas import Rota
from standworth.ties import Ties
from standworth.webs import Web
from standworth.weeks import Week
from standworth.worths import Worths

WIDE_YARDS = [
    ("fort", 5, 99), ("bank", 0, None), ("dock", 999, 1), ("cove", 2, 3), ("elm", 1, 20), ("abbey", 7, None),
]
WIDE_ROADS = [
    ("fort", "bank", 1, 0), ("bank", "fort", 8, 999), ("dock", "cove", 2, 3), ("cove", "dock", 3, 2),
    ("elm", "abbey", 1, 1), ("abbey", "elm", 1, 9), ("bank", "cove", 4, 40), ("cove", "elm", 7, 5),
]


def small_land():
    return Land(2, 10, [("quay", 1, 4), ("hill", 0, None)], roads=[("quay", "hill", 1, 2)])


def small_askings():
    return [
        Work("dig", "ann", ("quay", 0), ("quay", 2), 3, 6, rank=1),
        Hire("men", "bob", ("quay", 0), 2, 3),
        Work("mow", "cyd", ("hill", 1), ("quay", 2), 1, 9),
    ]


def small_web():
    return Web(small_land(), small_askings(), given=[(("hill", 0), 1), (("quay", 1), -1)])


def wide_land():
    return Land(8, 99, WIDE_YARDS, roads=WIDE_ROADS)


def letters_of(number):
    return "abcdefghijklmnopqrstuvwxyz"[number % 26]


def wide_askings(many=24):
    """Askings with many ranks, owners, hours and yards."""
    yards = [yard[0] for yard in WIDE_YARDS]
    askings = []
    for at in range(many):
        name = f"n{letters_of(at * 7)}{letters_of(at)}"
        owner = f"own{letters_of(at % 5)}"
        yard, other = yards[at % 6], yards[(at * 5 + 1) % 6]
        if at % 3 == 0:
            asking = Hire(name, owner, (yard, at % 9), at % 99 + 1, at * 4, rank=(at * 37) % 100)
        else:
            start = at % 8
            end = start + 1 + at % (8 - start)
            asking = Work(name, owner, (yard, start), (other, end), at % 7 + 1, at * 41, rank=(at * 37) % 100)
        askings.append(asking)
    return askings


def wide_given():
    return [(("elm", 3), -2), (("fort", 0), 99), (("abbey", 8), -99), (("bank", 4), 0), (("cove", 1), 5)]


def wide_web(since=0):
    return Web(wide_land(), wide_askings(), given=wide_given(), since=since)


def wide_week():
    return Week(wide_land(), wide_askings(), given=wide_given())


def odd_values():
    """Values of all kinds that may stand where any value may stand."""
    return [
        None, True, False, 0, 1, -1, 8, 9, 999999999, "", "quay", "quay ", "Quay", "quay 1", "seventy", "7", " ", "-",
        (), [], {}, ("quay",), ("quay", 1), ("quay", True), ("quay", False), ("quay", 9), ("quay", -1),
        ["quay", 1], ("quay", "1"), ("quay", None), ("Quay", 1), ("quay", 1, 1), ("far", 0), (("quay", 1), 1),
        {"quay": 1}, {("quay", 1): 1},
        ("buy", "quay", True), ("buy", "quay", 9), ("wait", "quay", 8), ("work", "none"), ("work", "dig", 0),
        ("walk", "quay", "quay", 0), ("walk", "quay", "hill", True), ["work", "dig"], (("work", "dig"), 1),
        (("work", "dig"), True), [[[[[[[[1]]]]]]]], ((((((((),),),),),),),),
        Land(0, 1, [("quay", 0, None)]), Worths({}), Worths({("quay", 1): 1}),
        Work("dig", "ann", ("quay", 0), ("quay", 1), 1, 1), Hire("men", "ann", ("quay", 1), 1, 1),
        small_web(), Week(small_land()), Plan(Web(small_land()), {}), Kept(small_land()), Rota([("work", "dig")]),
        Books(), Ties([("quay", 1)], 5), Lending(), Led(Week(small_land())), House(small_land()),
    ]


def told_by(error):
    """What an error tells in its attributes other than code, as text, so that True is not 1."""
    return [repr(value) for name, value in vars(error).items() if name != "code"]


class Raising(unittest.TestCase):
    """A test with a short form of asking for an error."""

    def raises(self, error, told, call):
        """A call raises an error that tells these values."""
        with self.assertRaises(error) as caught:
            call()
        self.assertEqual(told_by(caught.exception), [repr(value) for value in told])


def is_one_of(value, values):
    """Whether a value is among values, where True is not 1."""
    return any(value == other and repr(value) == repr(other) for other in values)


def room_left(web, amounts, key):
    room = web.line_sheet(key)[3]
    return room is None or amounts.get(key, 0) < room


def random_plan(web, seed, crews=30):
    """A plan in which some crews go random ways, and bought ones are called away."""
    luck = random.Random(seed)
    amounts = {}

    def lead(standing):
        while standing != ():
            keys = [key for key in web.lines_from(standing) if room_left(web, amounts, key)]
            key = luck.choice(keys)
            amounts[key] = amounts.get(key, 0) + 1
            standing = web.line_sheet(key)[2]

    for standing, many in web.given():
        for _ in range(many):
            lead(standing)
        if many < 0:
            amounts[("buy", *standing)] = amounts.get(("buy", *standing), 0) - many
    for _ in range(crews):
        key = luck.choice([key for key in web.lines_from(()) if room_left(web, amounts, key)])
        amounts[key] = amounts.get(key, 0) + 1
        lead(web.line_sheet(key)[2])
    return Plan(web, amounts)
