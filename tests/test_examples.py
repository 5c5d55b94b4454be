"""The examples of the document, as far as what they need is there."""

import unittest

from standworth.askings import Hire, Work
from standworth.dues import dues
from standworth.errors import InvalidNumber
from standworth.fitting import ends, least_row, middle_row
from standworth.gaps import gap_range
from standworth.lands import Land
from standworth.more import one_less, one_more
from standworth.rotas import parted, trail
from standworth.settled import settled_plan
from standworth.webs import Web


class ExamplesTest(unittest.TestCase):
    def setUp(self):
        land = Land(1, 10, [("quay", 0, None)])
        dig = Work("dig", "ann", ("quay", 0), ("quay", 1), 1, 6)
        men = Hire("men", "bob", ("quay", 0), 1, 3)
        self.web = Web(land, [dig, men])

    def test_a_settled_plan_and_the_ends(self):
        plan = settled_plan(self.web)
        self.assertEqual(plan.gain, 3)
        self.assertEqual(plan.amounts(), {("free", "quay", 1): 1, ("hire", "men"): 1, ("work", "dig"): 1})
        self.assertEqual(ends(self.web), {("quay", 0): (3, 6), ("quay", 1): (0, 0)})
        self.assertEqual(middle_row(self.web).worths(), {("quay", 0): 4, ("quay", 1): 0})
        self.assertEqual(dues(plan, middle_row(self.web)), {"": 0, "ann": 2, "bob": 1})

    def test_crews_more_and_less(self):
        self.assertEqual(list(one_more(self.web, ("quay", 0), 3)), [3, 0, 0])
        self.assertEqual(list(one_less(self.web, ("quay", 0), 2)), [6, 10])
        self.assertEqual(gap_range(self.web, ("quay", 0), ("quay", 1)), (-6, -3))

    def test_a_trail(self):
        rota = parted(settled_plan(self.web))[0]
        self.assertEqual(rota.lines(), [("hire", "men"), ("work", "dig"), ("free", "quay", 1)])
        self.assertEqual(list(trail(self.web, rota, least_row(self.web))), [
            ((), 0, 0, 0), (("quay", 0), -3, 3, 0), (("quay", 1), 3, 0, 3), ((), 3, 0, 3),
        ])

    def test_an_error(self):
        with self.assertRaises(InvalidNumber) as caught:
            Land(1, 0, [("quay", 0, None)])
        self.assertEqual(caught.exception.value, 0)


if __name__ == "__main__":
    unittest.main()
