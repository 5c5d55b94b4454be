"""The examples of the document."""

import unittest

from standworth.askings import Hire, Work
from standworth.cover import cover, cover_flow
from standworth.dues import dues
from standworth.errors import InvalidNumber
from standworth.fitting import ends, least_row, middle_row
from standworth.gaps import gap_range
from standworth.house import House
from standworth.lands import Land
from standworth.led import Led
from standworth.more import one_less, one_more
from standworth.rotas import parted, trail
from standworth.settled import settled_plan
from standworth.ties import Ties
from standworth.webs import Web
from standworth.weeks import Week


class ExamplesTest(unittest.TestCase):
    def setUp(self):
        land = Land(1, 10, [("quay", 0, None)])
        dig = Work("dig", "ann", ("quay", 0), ("quay", 1), 1, 6)
        men = Hire("men", "bob", ("quay", 0), 1, 3)
        self.web = Web(land, [dig, men])

    def test_a_settled_plan_and_the_ends(self):
        plan = settled_plan(self.web)
        self.assertEqual(plan.gain, 3)
        self.assertEqual(plan.amounts(), {("free", "quay", 1): 1, ("hire", "men"): 1, ("work", "dig"): 1})
        self.assertEqual(ends(self.web), {("quay", 0): (3, 6), ("quay", 1): (0, 0)})
        self.assertEqual(middle_row(self.web).worths(), {("quay", 0): 4, ("quay", 1): 0})
        self.assertEqual(dues(plan, middle_row(self.web)), {"": 0, "ann": 2, "bob": 1})

    def test_crews_more_and_less(self):
        self.assertEqual(list(one_more(self.web, ("quay", 0), 3)), [3, 0, 0])
        self.assertEqual(list(one_less(self.web, ("quay", 0), 2)), [6, 10])
        self.assertEqual(gap_range(self.web, ("quay", 0), ("quay", 1)), (-6, -3))

    def test_a_trail(self):
        rota = parted(settled_plan(self.web))[0]
        self.assertEqual(rota.lines(), [("hire", "men"), ("work", "dig"), ("free", "quay", 1)])
        self.assertEqual(list(trail(self.web, rota, least_row(self.web))), [
            ((), 0, 0, 0), (("quay", 0), -3, 3, 0), (("quay", 1), 3, 0, 3), ((), 3, 0, 3),
        ])

    def test_a_led_week(self):
        land = Land(2, 10, [("quay", 0, None)])
        dig = Work("dig", "ann", ("quay", 0), ("quay", 1), 1, 6)
        men, more = Hire("men", "bob", ("quay", 0), 1, 3), Hire("more", "bob", ("quay", 0), 1, 2)
        led = Led(Week(land, [dig, men, more]))
        self.assertEqual([led.gain, led.lost()], [4, 0])
        led.go()
        led.ask(Work("fill", "ann", ("quay", 1), ("quay", 2), 2, 4))
        self.assertEqual([led.gain, led.lost(), led.plan().amount(("work", "fill"))], [8, 1, 1])
        self.assertEqual(led.row().worths(), {("quay", 1): 4, ("quay", 2): 0})

    def test_a_cover(self):
        ties = Ties([("a", 0), ("b", 0)], 10, [(("a", 0), ("b", 0), 2)])
        owed = {("a", 0): -1, ("b", 0): 1}
        self.assertEqual([cover(ties, owed), cover_flow(ties, owed)], [2, {(("a", 0), ("b", 0)): 1}])

    def test_a_house(self):
        house = House(self.web.land)
        house.do(*[("ask", asking) for asking in self.web.askings()])
        told = [house.square(), house("due ann"), house("balance ann"), house("balance bob"), house("ends quay 0")]
        self.assertEqual([*told, house.history()], [(0, 3), "3", "-3", "3", "3 6", (1, 0)])

    def test_an_error(self):
        with self.assertRaises(InvalidNumber) as caught:
            Land(1, 0, [("quay", 0, None)])
        self.assertEqual(caught.exception.value, 0)


if __name__ == "__main__":
    unittest.main()
