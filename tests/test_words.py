import unittest

from standworth.words import (
    HABITS, account_of, is_account, is_key, is_name, is_number, is_place, is_standing, number_in, number_text,
)
from tests.samples import is_one_of, odd_values


class WordsTest(unittest.TestCase):
    def check(self, function, good, bad):
        for value in good:
            self.assertIs(function(value), True, repr(value))
        for value in bad:
            self.assertIs(function(value), False, repr(value))

    def check_odd(self, function, good):
        for value in odd_values():
            self.assertIs(function(value), is_one_of(value, good), repr(value))

    def test_names(self):
        self.check(is_name, ["a", "z", "quay", "abcdef"], [
            "", "abcdefg", "Quay", "a b", "a1", "a_b", "quay\n", " a", "\u00e9", "\u00aa", None, 5, ["a"], ("a",),
        ])
        self.check_odd(is_name, ["quay"])

    def test_numbers(self):
        self.assertIs(is_number(3, 3, 5), True)
        self.assertIs(is_number(5, 3, 5), True)
        self.assertIs(is_number(-2, -2, -2), True)
        self.assertIs(is_number(2, 3, 5), False)
        self.assertIs(is_number(6, 3, 5), False)
        self.assertIs(is_number(True, 0, 1), False)
        self.assertIs(is_number(False, 0, 1), False)
        for value in odd_values():
            self.assertIs(is_number(value, 0, 8), is_one_of(value, [0, 1, 8]), repr(value))

    def test_standings(self):
        self.check(is_standing, [("a", 0), ("abcdef", 8)], [
            ("a", 9), ("a", -1), ("a", True), ("a", False), ["a", 0], ("a", "0"), (0, "a"), ("", 0), ("A", 0),
            ("a",), ("a", 0, 0), (), "a0", ("a", None), (["a"], 0),
        ])
        self.check_odd(is_standing, [("quay", 1), ("far", 0)])

    def test_places(self):
        self.check(is_place, [(), ("a", 0), ("abcdef", 8)], [[], {}, "", None, 0, ("a", True), ((),), ["a", 0]])
        self.check_odd(is_place, [(), ("quay", 1), ("far", 0)])

    def test_keys(self):
        self.check(is_key, [
            ("buy", "a", 0), ("free", "a", 8), ("hire", "abcdef"), ("wait", "a", 8), ("walk", "a", "b", 8),
            ("work", "a"),
        ], [
            ("buy", "a", 9), ("buy", "a", -1), ("buy", "a", True), ("free", "a", False), ("wait", "A", 0),
            ("walk", "a", "a", 0), ("walk", "a", "b", True), ("walk", "a", "b"), ("walk", "a", "b", 9),
            ("walk", "a", "b", 0, 0), ("walk", "a", ("b", 0)), ("walk", ["a"], "b", 0), ("hire", ""), ("hire", "a", 0),
            ("work",), ("work", "a", 0), ("work", 5), ("rest", "a"), ("rest", "a", 0), ("rest", "a", "b", 0),
            ["buy", "a", 0], ("buy", "a"),
            ("buy", ("a", 0)), ("buy", "a", 0, 0), (None, "a"), (["work"], "a"), ("work", ["a"]), (), "work a", None,
        ])
        self.check_odd(is_key, [("wait", "quay", 8), ("work", "none")])

    def test_numbers_in_strings(self):
        for text, number in [("0", 0), ("7", 7), ("10", 10), ("999999999", 999999999), ("120", 120)]:
            self.assertEqual(number_in(text), number)
            self.assertIs(type(number_in(text)), int)
        wrong = ["", "00", "01", "-1", "+1", " 1", "1 ", "1\n", "1000000000", "1.0", "a", "\u0661", "\u00b2", "1_0"]
        for text in wrong:
            self.assertIsNone(number_in(text), repr(text))
        for value in odd_values():
            self.assertEqual(number_in(value), 7 if value == "7" else None, repr(value))

    def test_numbers_of_any_size_are_written(self):
        ends = [10 ** many + more for many in (0, 1, 17, 18, 19, 35, 36, 37, 54, 600) for more in (-1, 0, 1)]
        for number in ends + [123456789, 5 * 10 ** 18 + 7, 10 ** 36 + 10 ** 18, 98765432109876543210]:
            self.assertEqual(number_text(number), str(number))
            self.assertEqual(number_text(-number), str(-number))
        self.assertEqual(number_text(-(10 ** 9000)), "-1" + "0" * 9000)
        self.assertEqual(number_text(10 ** 9000 - 1), "9" * 9000)

    def test_accounts(self):
        self.check(is_account, ["", "ann", "abcdef", "quay 0", "quay 8"], [
            "quay 9", "quay 08", "quay  3", "quay 3 ", " 3", " ", "quay -1", "Quay 3", "quay a", "abcdefg", "quay 3\n",
            "quay 3 3", "3", None, 3, ("quay", 3), ["ann"],
        ])
        self.check_odd(is_account, ["", "quay", "quay 1"])
        self.assertEqual(account_of(("quay", 3)), "quay 3")
        self.assertIs(is_account(account_of(("abcdef", 8))), True)

    def test_habits(self):
        self.assertEqual(HABITS, ("least", "greatest", "middle"))
        self.assertIs(type(HABITS), tuple)


if __name__ == "__main__":
    unittest.main()
