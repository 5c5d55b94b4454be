import unittest

from standworth.askings import Asking, Hire, Work
from standworth.errors import InvalidName, InvalidNumber, InvalidStanding
from tests.samples import Raising, is_one_of, odd_values, wide_askings


def work(**other):
    told = {
        "name": "dig", "owner": "ann", "start": ("quay", 1), "end": ("hill", 3), "crews": 3, "price": 5, "rank": 7,
        **other,
    }
    return Work(**told)


def hire(**other):
    told = {"name": "men", "owner": "bob", "end": ("hill", 3), "crews": 3, "price": 5, "rank": 7, **other}
    return Hire(**told)


class AskingsTest(Raising):
    def test_attributes_of_a_work(self):
        made = Work("dig", "ann", ("quay", 1), ("hill", 3), 3, 5, rank=7)
        self.assertEqual((made.name, made.owner, made.crews, made.price, made.rank), ("dig", "ann", 3, 5, 7))
        self.assertEqual((made.start, made.end, made.begins), (("quay", 1), ("hill", 3), 1))
        self.assertEqual((made.key, made.fee), (("work", "dig"), -5))
        self.assertEqual(Work("dig", "ann", ("quay", 1), ("quay", 2), 3, 5).rank, 0)
        self.assertIsInstance(made, Asking)

    def test_attributes_of_a_hire(self):
        made = Hire("men", "bob", ("hill", 3), 4, 6, rank=8)
        self.assertEqual((made.name, made.owner, made.crews, made.price, made.rank), ("men", "bob", 4, 6, 8))
        self.assertEqual((made.start, made.end, made.begins), ((), ("hill", 3), 3))
        self.assertEqual((made.key, made.fee), (("hire", "men"), 6))
        self.assertEqual(Hire("men", "bob", ("hill", 3), 4, 6).rank, 0)
        self.assertIsInstance(made, Asking)

    def test_base_class(self):
        made = Asking("dig", "ann", 3, 5, 7)
        self.assertEqual((made.name, made.owner, made.crews, made.price, made.rank), ("dig", "ann", 3, 5, 7))

    def test_numbers_at_both_bounds(self):
        for make in (work, hire):
            for crews, price, rank in [(1, 0, 0), (99, 999, 99)]:
                made = make(crews=crews, price=price, rank=rank)
                self.assertEqual((made.crews, made.price, made.rank), (crews, price, rank))
        self.assertEqual(work(start=("a", 0), end=("a", 8)).begins, 0)
        self.assertEqual(work(start=("a", 7), end=("a", 8)).begins, 7)
        self.assertEqual(hire(end=("a", 8)).begins, 8)

    def test_numbers_one_beyond(self):
        for make in (work, hire):
            for told in [{"crews": 0}, {"crews": 100}, {"price": -1}, {"price": 1000}, {"rank": -1}, {"rank": 100}]:
                self.raises(InvalidNumber, [list(told.values())[0]], lambda: make(**told))

    def test_wrong_values_of_any_kind(self):
        for value in odd_values():
            for make in (work, hire):
                for field in ("name", "owner"):
                    if value != "quay":
                        self.raises(InvalidName, [value], lambda: make(**{field: value}))
                if not is_one_of(value, [1, 8, 9]):
                    self.raises(InvalidNumber, [value], lambda: make(crews=value))
                if not is_one_of(value, [0, 1, 8, 9]):
                    self.raises(InvalidNumber, [value], lambda: make(price=value))
                    self.raises(InvalidNumber, [value], lambda: make(rank=value))
            if not is_one_of(value, [("quay", 1), ("far", 0)]):
                self.raises(InvalidStanding, [value], lambda: work(start=value))
                self.raises(InvalidStanding, [value], lambda: work(end=value))
                self.raises(InvalidStanding, [value], lambda: hire(end=value))

    def test_a_work_ends_at_a_later_hour(self):
        for end in [("quay", 1), ("hill", 1), ("hill", 0), ("quay", True)]:
            self.raises(InvalidStanding, [end], lambda: work(end=end))
        self.assertEqual(work(end=("hill", 2)).end, ("hill", 2))
        self.assertEqual(work(end=("quay", 2)).end, ("quay", 2))

    def test_the_first_error_counts(self):
        wrong = [
            ("name", None, InvalidName), ("owner", 5, InvalidName), ("start", (), InvalidStanding),
            ("end", ["hill", 3], InvalidStanding), ("crews", True, InvalidNumber), ("price", "5", InvalidNumber),
            ("rank", -2, InvalidNumber),
        ]
        for at, (_, value, error) in enumerate(wrong):
            told = {field: other for field, other, _ in wrong[at:]}
            self.raises(error, [value], lambda: work(**told))
            if wrong[at][0] != "start":
                told.pop("start", None)
                self.raises(error, [value], lambda: hire(**told))

    def test_other_terms(self):
        for made in (work(), hire()):
            other = made.with_terms(crews=9, price=8)
            self.assertEqual((other.crews, other.price, made.crews, made.price), (9, 8, 3, 5))
            self.assertEqual(other.fee, 8 if isinstance(made, Hire) else -8)
            self.assertTrue(other.with_terms(3, 5) == made)
            for value in (0, 100, True, None, "1"):
                self.raises(InvalidNumber, [value], lambda: made.with_terms(value, -1))
            for value in (-1, 1000, False, [], ()):
                self.raises(InvalidNumber, [value], lambda: made.with_terms(1, value))
            self.assertTrue(made.with_terms(3, 5) == made)

    def test_text(self):
        self.assertEqual(work().text(), "work dig ann 7 quay 1 hill 3 3 5\n")
        self.assertEqual(work(rank=0, price=0).text(), "work dig ann 0 quay 1 hill 3 3 0\n")
        self.assertEqual(hire().text(), "hire men bob 7 hill 3 3 5\n")

    def test_equality(self):
        self.assertTrue(work() == work())
        self.assertTrue(hire() == hire())
        for field, value in [
            ("name", "dug"), ("owner", "cyd"), ("end", ("hill", 4)), ("crews", 4), ("price", 6), ("rank", 8),
        ]:
            self.assertIs(work() == work(**{field: value}), False)
            self.assertIs(hire() == hire(**{field: value}), False)
        self.assertIs(work() == work(start=("hill", 1)), False)
        self.assertIs(work() == work(end=("quay", 3)), False)
        self.assertIs(work() == hire(name="dig", owner="ann"), False)
        self.assertIs(hire(name="dig", owner="ann") == work(), False)
        self.assertIs(work() != work(), False)
        for value in odd_values():
            self.assertIs(work() == value, False)
            self.assertIs(hire() == value, False)

    def test_repr(self):
        self.assertEqual(repr(work()), "Work(dig, 3 crews at 5)")
        self.assertEqual(repr(work(crews=1)), "Work(dig, 1 crews at 5)")
        self.assertEqual(repr(hire(price=0)), "Hire(men, 3 crews at 0)")

    def test_many_askings_are_told_by_their_texts(self):
        askings = wide_askings()
        self.assertEqual(len({asking.text() for asking in askings}), 24)
        for asking in askings:
            self.assertEqual(asking.key, (asking.text().split(" ")[0], asking.name))


if __name__ == "__main__":
    unittest.main()
