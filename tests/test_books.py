import inspect
import random
import unittest

from standworth.books import Books
from standworth.errors import (
    InvalidEntry, InvalidKey, InvalidNumber, NotReversible, Occupied, StandError, Uneven, UnknownNumber,
)
from standworth.words import is_key
from tests.samples import Raising, is_one_of, odd_values

DIG, MEN, WAIT = ("work", "dig"), ("hire", "men"), ("wait", "quay", 1)
PAIR = (("ann", 5), ("bob", -5))
ACCOUNTS = ["", "ann", "bob", "cyd", "quay 0", "quay 8", "hill 3", "abcdef"]


def records(books):
    return [books.record(number) for number in range(len(books))]


def state(books):
    """All that books tell of themselves."""
    bounds = [None, 0, 1, 2, 3, 999]
    trials = [books.trial(done=done, known=known) for done in bounds for known in bounds]
    forces = [(key, books.in_force(key)) for key in books.keys_in_force()]
    return (records(books), books.day, len(books), forces, trials, repr(books))


def some_books():
    """Books with transactions of three days, one of which is reversed."""
    books = Books()
    books.post(DIG, 2, [("quay 1", -7), ("ann", 7)])
    books.next_day()
    books.post(MEN, 0, PAIR)
    books.take_back(0)
    books.next_day()
    books.post(DIG, 1, [("ann", 3), ("", -4), ("quay 1", 1)])
    return books


def random_entries(luck):
    accounts = luck.sample(ACCOUNTS, luck.randrange(1, 9))
    amounts = [luck.randrange(-9, 10) for _ in accounts[1:]]
    return list(zip(accounts, [-sum(amounts), *amounts]))


def random_key(luck):
    return luck.choice([DIG, MEN, WAIT, ("buy", "quay", 0), ("walk", "quay", "hill", 0), ("free", "hill", 8)])


class PostTest(Raising):
    def test_records(self):
        books = some_books()
        self.assertEqual(records(books), [
            (0, DIG, 2, 0, None, (("ann", 7), ("quay 1", -7))),
            (1, MEN, 0, 1, None, (("ann", 5), ("bob", -5))),
            (2, DIG, 2, 1, 0, (("ann", -7), ("quay 1", 7))),
            (3, DIG, 1, 2, None, (("", -4), ("ann", 3), ("quay 1", 1))),
        ])
        self.assertEqual((len(books), repr(books), books.day), (4, "Books(4 transactions)", 2))
        self.assertEqual((books.keys_in_force(), books.in_force(DIG), books.in_force(MEN)), ([MEN, DIG], 3, 1))
        self.assertEqual(books.record(number=2), books.record(2))

    def test_empty_books(self):
        books = Books()
        self.assertEqual((len(books), bool(books), repr(books), books.day), (0, True, "Books(0 transactions)", 0))
        self.assertEqual((books.keys_in_force(), books.trial(), books.balance("ann")), ([], {}, 0))
        self.assertEqual(list(books.statement("ann")), [])
        self.assertIsNone(books.next_day())
        self.assertEqual(books.day, 1)
        with self.assertRaises(AttributeError):
            books.day = 5

    def test_numbers_are_told(self):
        books = Books()
        self.assertEqual(books.post(key=DIG, done=0, entries=PAIR), 0)
        self.assertEqual(books.post(MEN, 999, [("ann", 0)]), 1)
        self.assertEqual(books.take_back(number=0), 2)
        self.assertEqual(books.post(DIG, 0, PAIR), 3)

    def test_one_to_eight_entries(self):
        books = Books()
        eight = [(account, at - 3) for at, account in enumerate(ACCOUNTS)]
        eight[0] = ("", -7)
        self.assertEqual(sum(amount for _, amount in eight), 0)
        books.post(DIG, 0, eight)
        self.assertEqual(books.record(0)[5], tuple(sorted(eight)))
        books.post(MEN, 0, (("ann", 0),))
        self.assertEqual(books.record(1)[5], (("ann", 0),))
        for wrong in [[], (), [*eight, ("dan", 0)], [*eight, None], [None] * 400]:
            self.raises(InvalidEntry, [-1], lambda: books.post(WAIT, 0, wrong))

    def refuses(self, error, told, call):
        before = state(self.books)
        self.raises(error, told, call)
        self.assertEqual(state(self.books), before)

    def test_wrong_keys(self):
        self.books = some_books()
        keys = [("wait", "quay", True), ("walk", "quay", "quay", 0), ["work", "dig"], ("work", "Dig"), ("wait", "quay")]
        for value in odd_values() + keys:
            if not is_key(value):
                self.refuses(InvalidKey, [value], lambda: self.books.post(value, None, None))

    def test_wrong_times(self):
        self.books = some_books()
        for value in odd_values() + [1000, -1, 10 ** 9]:
            if not isinstance(value, int) or isinstance(value, bool) or not 0 <= value <= 999:
                self.refuses(InvalidNumber, [value], lambda: self.books.post(MEN, value, None))
        self.assertEqual(self.books.post(WAIT, 999, PAIR), 4)

    def test_wrong_entries(self):
        self.books = some_books()
        for value in odd_values():
            if not isinstance(value, (list, tuple)) or not value:
                self.refuses(InvalidEntry, [-1], lambda: self.books.post(MEN, 0, value))
        for value in odd_values() + [
            ("ann", True), ("ann", None), ("ann", "5"), ["ann", 5], ("ann",), ("ann", 5, 5), ("Ann", 5),
            ("abcdefg", 5), ("quay 9", 5), ("quay 01", 5), ("quay  1", 5), ("quay ", 5), (" ", 5), (("quay", 1), 5),
            (None, 5), ("ann ", 5), ("quay 1 ", 5), ("ann\n", 5), ("quay -1", 5), ("bob", 1), ("bob", -5),
        ]:
            if not is_one_of(value, [("quay", 1), ("quay", 9), ("quay", -1), ("far", 0)]):
                self.refuses(InvalidEntry, [1], lambda: self.books.post(MEN, 0, [("bob", 5), value, None]))
        self.refuses(InvalidEntry, [2], lambda: self.books.post(MEN, 0, (("ann", 1), ("bob", 1), ("ann", 1))))
        self.refuses(Uneven, [1], lambda: self.books.post(MEN, 0, [("ann", -5), ("bob", 6)]))
        self.refuses(Uneven, [-7], lambda: self.books.post(MEN, 0, (("ann", -7),)))
        self.refuses(Occupied, [MEN], lambda: self.books.post(MEN, 0, PAIR))
        self.refuses(Occupied, [DIG], lambda: self.books.post(DIG, 1, [("ann", 3), ("", -4), ("quay 1", 1)]))

    def test_errors_in_order(self):
        self.books = some_books()
        self.refuses(InvalidKey, [0], lambda: self.books.post(0, -1, [None]))
        self.refuses(InvalidNumber, [-1], lambda: self.books.post(MEN, -1, [None]))
        self.refuses(InvalidEntry, [0], lambda: self.books.post(MEN, 0, [None, ("ann", 1)]))
        self.refuses(InvalidEntry, [1], lambda: self.books.post(MEN, 0, [("ann", 1), ("ann", 1)]))
        self.refuses(Uneven, [2], lambda: self.books.post(MEN, 0, [("ann", 1), ("bob", 1)]))

    def test_entries_are_copied(self):
        books = Books()
        entries = [("bob", -5), ("ann", 5)]
        books.post(DIG, 0, entries)
        self.assertEqual(entries, [("bob", -5), ("ann", 5)])
        entries[0] = ("cyd", -5)
        entries.append(None)
        self.assertEqual(books.record(0)[5], PAIR)

    def test_large_amounts(self):
        books = Books()
        books.post(DIG, 0, [("ann", 999999999), ("bob", -999999999)])
        for _ in range(200):
            amount = 99 * books.balance("ann")
            books.take_back(books.in_force(DIG))
            books.post(DIG, 0, [("ann", amount), ("bob", -amount)])
        self.assertEqual(books.trial(), {"ann": 999999999 * 99 ** 200, "bob": -999999999 * 99 ** 200})
        with self.assertRaises(Uneven) as caught:
            books.post(MEN, 0, [("ann", amount ** 9)])
        self.assertTrue(caught.exception.total == amount ** 9)


class TakeBackTest(Raising):
    def test_unknown_numbers(self):
        books = some_books()
        before = state(books)
        for value in odd_values() + [4, -1, -4, (0,), "0", 0.0]:
            if not is_one_of(value, [0, 1]):
                self.raises(UnknownNumber, [value], lambda: books.take_back(value))
                self.raises(UnknownNumber, [value], lambda: books.record(value))
        self.raises(UnknownNumber, [0], lambda: Books().take_back(0))
        self.raises(UnknownNumber, [0], lambda: Books().record(0))
        self.assertEqual(state(books), before)

    def test_reversals_and_what_is_reversed_stay(self):
        books = some_books()
        before = state(books)
        for number in (0, 2):
            self.raises(NotReversible, [number], lambda: books.take_back(number))
        self.assertEqual(state(books), before)
        self.assertEqual(books.take_back(3), 4)
        for number in (0, 2, 3, 4):
            self.raises(NotReversible, [number], lambda: books.take_back(number))
        self.assertEqual(books.keys_in_force(), [MEN])

    def test_posted_again_on_a_later_day(self):
        books = Books()
        for day in range(3):
            number = books.post(WAIT, 7, [("", day), ("quay 1", -day)])
            self.assertEqual((books.in_force(WAIT), books.record(number)[3]), (number, day))
            books.next_day()
            back = books.take_back(number)
            self.assertEqual(books.record(back), (back, WAIT, 7, day + 1, number, (("", -day), ("quay 1", day))))
            self.assertIsNone(books.in_force(WAIT))
        self.assertEqual(books.trial(), {"": 0, "quay 1": 0})
        self.assertEqual([books.balance("", known=day) for day in range(4)], [0, 1, 2, 0])

    def test_in_force(self):
        books = some_books()
        books.post(WAIT, 0, PAIR)
        self.assertEqual(books.in_force(key=WAIT), 4)
        for value in odd_values() + [("wait", "quay", True), list(WAIT), ("wait", "quay", 2), (*WAIT, 1)]:
            self.assertIsNone(books.in_force(value))


class SquareTest(Raising):
    def test_by_hand(self):
        books = some_books()
        books.post(WAIT, 1, [("", 2), ("quay 1", -2)])
        rows = [
            (WAIT, 1, [("quay 1", -2), ("", 2)]), (("buy", "quay", 0), 0, (("", 9), ("quay 0", -9))),
            (DIG, 2, (("", -4), ("ann", 3), ("quay 1", 1))),
        ]
        self.assertEqual(books.square(rows), (2, 2))
        self.assertEqual(records(books)[5:], [
            (5, MEN, 0, 2, 1, (("ann", -5), ("bob", 5))), (6, DIG, 1, 2, 3, (("", 4), ("ann", -3), ("quay 1", -1))),
            (7, ("buy", "quay", 0), 0, 2, None, (("", 9), ("quay 0", -9))),
            (8, DIG, 2, 2, None, (("", -4), ("ann", 3), ("quay 1", 1))),
        ])
        self.assertEqual(books.keys_in_force(), [("buy", "quay", 0), WAIT, DIG])
        self.assertEqual(books.square(rows=tuple(rows)), (0, 0))
        self.assertEqual(len(books), 9)

    def test_each_difference(self):
        entries = (("", 0), ("ann", 5), ("bob", -5))
        others = [(5, entries), (4, (("ann", 5), ("bob", -5))), (4, (("", 0), ("ann", 6), ("bob", -6))),
                  (4, (("", 0), ("ann", 5), ("cyd", -5))), (4, (("", 0), ("abe", 0), ("ann", 5), ("bob", -5)))]
        for done, told in others:
            books = Books()
            books.post(DIG, 4, entries)
            self.assertEqual(books.square([(DIG, done, told)]), (1, 1))
            self.assertEqual(books.record(2)[1:], (DIG, done, 0, None, told))
        books = Books()
        books.post(DIG, 4, entries)
        self.assertEqual(books.square([(DIG, 4, list(reversed(entries)))]), (0, 0))
        self.assertEqual(books.square([]), (1, 0))
        self.assertEqual(books.square(()), (0, 0))

    def test_as_books_into_which_the_posting_alone_was_posted(self):
        for seed in range(200):
            luck = random.Random(seed)
            books = Books()
            for _ in range(luck.randrange(12)):
                self.random_deed(luck, books)
            keys = sorted({random_key(luck) for _ in range(luck.randrange(7))})
            rows = [(key, luck.randrange(4), random_entries(luck)) for key in keys]
            for at, (key, done, entries) in enumerate(rows):
                if books.in_force(key) is not None and luck.random() < 0.5:
                    rows[at] = (key, *[books.record(books.in_force(key))[at] for at in (2, 5)])
            before, forces = len(books), {key: books.record(books.in_force(key)) for key in books.keys_in_force()}
            wanted = {key: (done, tuple(sorted(entries))) for key, done, entries in rows}
            wrong = [key for key in sorted(forces) if (forces[key][2], forces[key][5]) != wanted.get(key)]
            kept = [key for key in forces if key not in wrong]
            new = [key for key in sorted(wanted) if key not in kept]
            luck.shuffle(rows)
            self.assertEqual(books.square(rows), (len(wrong), len(new)))
            told = records(books)[before:]
            self.assertEqual([(each[1], each[4]) for each in told],
                             [(key, forces[key][0]) for key in wrong] + [(key, None) for key in new])
            self.assertEqual(books.keys_in_force(), sorted(wanted))
            self.check_alone(books, rows)
            self.assertEqual((books.square(rows), len(books)), ((0, 0), before + len(told)))

    def check_alone(self, books, rows):
        alone = Books()
        for key, done, entries in rows:
            alone.post(key, done, entries)
        for done in (None, 0, 1, 2, 3):
            told, single = books.trial(done=done), alone.trial(done=done)
            for account in told:
                self.assertEqual(told[account], single.get(account, 0))
            self.assertLessEqual(set(single), set(told))

    def random_deed(self, luck, books):
        kind = luck.choice(["post", "post", "back", "day"])
        try:
            if kind == "post":
                books.post(random_key(luck), luck.randrange(4), random_entries(luck))
            elif kind == "back" and len(books):
                books.take_back(luck.randrange(len(books)))
            elif kind == "day":
                books.next_day()
        except (Occupied, NotReversible):
            pass

    def refuses(self, books, at, rows):
        before = state(books)
        self.raises(InvalidEntry, [at], lambda: books.square(rows))
        self.assertEqual(state(books), before)

    def test_wrong_rows(self):
        books = some_books()
        good = (WAIT, 0, PAIR)
        for value in odd_values():
            if not isinstance(value, (list, tuple)):
                self.refuses(books, -1, value)
            self.refuses(books, 1, [good, value, None])
        wrong = [
            list(good), good[:2], (*good, None), (None, 0, PAIR), (("wait", "quay", True), 0, PAIR), (MEN, 1000, PAIR),
            (MEN, True, PAIR), (MEN, -1, PAIR), (MEN, None, PAIR), (MEN, 0, None), (MEN, 0, []), (MEN, 0, {}),
            (MEN, 0, [("ann", 1)]), (MEN, 0, [("ann", 1), ("ann", -1)]), (MEN, 0, [["ann", 0]]),
            (MEN, 0, [("ann", True)]), (MEN, 0, [(account, 0) for account in [*ACCOUNTS, "dan"]]), good,
            (WAIT, 5, [("ann", 0)]),
        ]
        for value in wrong:
            self.refuses(books, 1, [good, value])
            self.refuses(books, 2, ((DIG, 0, PAIR), good, value, value))
        self.assertEqual(books.square([(DIG, 1, books.record(3)[5]), good]), (1, 1))

    def test_rows_stay(self):
        books = Books()
        entries = [("bob", -1), ("ann", 1)]
        rows = [(DIG, 0, entries), (MEN, 0, PAIR)]
        books.square(rows)
        self.assertEqual(rows, [(DIG, 0, [("bob", -1), ("ann", 1)]), (MEN, 0, PAIR)])
        entries.clear()
        self.assertEqual(books.record(1)[5], (("ann", 1), ("bob", -1)))


class BalanceTest(Raising):
    def test_by_hand(self):
        books = some_books()
        self.assertEqual(books.trial(), {"": -4, "ann": 8, "bob": -5, "quay 1": 1})
        self.assertEqual(books.trial(done=1), {"": -4, "ann": 8, "bob": -5, "quay 1": 1})
        self.assertEqual(books.trial(done=0), {"": 0, "ann": 5, "bob": -5, "quay 1": 0})
        self.assertEqual(books.trial(known=0), {"": 0, "ann": 7, "bob": 0, "quay 1": -7})
        self.assertEqual(books.trial(done=2, known=1), {"": 0, "ann": 5, "bob": -5, "quay 1": 0})
        self.assertEqual(list(books.trial()), ["", "ann", "bob", "quay 1"])
        self.assertEqual(books.balance("ann"), 8)
        self.assertEqual(books.balance(account="quay 1", done=999, known=0), -7)
        self.assertEqual(list(books.statement("ann")), [
            (1, 0, 1, 5, 5), (3, 1, 2, 3, 8), (0, 2, 0, 7, 15), (2, 2, 1, -7, 8),
        ])
        self.assertEqual(list(books.statement(account="ann", done=2, known=1)), [
            (1, 0, 1, 5, 5), (0, 2, 0, 7, 12), (2, 2, 1, -7, 5),
        ])

    def test_by_words(self):
        for seed in range(60):
            luck = random.Random(seed)
            books = Books()
            for _ in range(luck.randrange(25)):
                SquareTest.random_deed(self, luck, books)
            accounts = sorted({account for each in records(books) for account, _ in each[5]})
            for done in (None, 0, 2, 3, 999):
                for known in (None, 0, 1, 4, 999):
                    told = books.trial(done=done, known=known)
                    self.assertEqual(list(told), accounts)
                    self.assertEqual(sum(told.values()), 0)
                    for account in ACCOUNTS:
                        self.check_account(books, account, done, known)
                        self.assertEqual(books.balance(account, done=done, known=known), told.get(account, 0))

    def check_account(self, books, account, done, known):
        entries = []
        for number, _, when, day, _, pairs in records(books):
            if (done is None or when <= done) and (known is None or day <= known):
                entries.extend((when, number, day, amount) for owner, amount in pairs if owner == account)
        total, wanted = 0, []
        for when, number, day, amount in sorted(entries):
            total += amount
            wanted.append((number, when, day, amount, total))
        self.assertEqual(list(books.statement(account, done=done, known=known)), wanted)
        self.assertEqual(books.balance(account, done=done, known=known), total)

    def test_balances_of_days_gone_by_never_change(self):
        luck = random.Random(5)
        books = Books()
        told = {}
        for _ in range(150):
            SquareTest.random_deed(self, luck, books)
            for known in range(min(books.day, 999)):
                for done in (None, 0, 1, 2, 3):
                    trial = {key: many for key, many in books.trial(done=done, known=known).items() if many}
                    self.assertEqual(told.setdefault((done, known), trial), trial)
        self.assertGreater(len(told), 50)

    def test_odd_accounts(self):
        books = some_books()
        for value in odd_values() + [["ann"], ("ann",), "Ann", "cyd", "quay 2", ("quay", 1)]:
            if not is_one_of(value, ["", "quay 1"]):
                self.assertEqual(books.balance(value), 0)
                self.assertEqual(list(books.statement(value)), [])

    def test_wrong_bounds(self):
        books = some_books()
        for value in odd_values() + [1000, -1, 10 ** 9]:
            if value is None or is_one_of(value, [0, 1, 8, 9]):
                continue
            for call in (lambda **told: books.balance(None, **told), books.trial, Books().trial,
                         lambda **told: list(books.statement(["ann"], **told))):
                self.raises(InvalidNumber, [value], lambda: call(done=value, known=-5))
                self.raises(InvalidNumber, [value], lambda: call(done=3, known=value))
        for bound in (0, 999, None):
            self.assertEqual(len(books.trial(done=bound, known=bound)), 4)

    def test_a_statement_raises_when_its_first_item_is_requested(self):
        books = some_books()
        self.assertTrue(inspect.isgeneratorfunction(Books.statement))
        rows = books.statement("ann", done=-1)
        self.raises(InvalidNumber, [-1], lambda: next(rows))
        rows = books.statement("ann", known=True)
        self.raises(InvalidNumber, [True], lambda: list(rows))

    def test_told_lists_are_new(self):
        books = some_books()
        before = state(books)
        books.trial().clear()
        books.keys_in_force().clear()
        self.assertEqual(state(books), before)

    def test_days_beyond_the_bounds(self):
        books = Books()
        for _ in range(1001):
            books.next_day()
        books.post(DIG, 0, PAIR)
        self.assertEqual((books.day, books.record(0)[3]), (1001, 1001))
        self.assertEqual((books.balance("ann"), books.balance("ann", known=999)), (5, 0))


class TwinTest(Raising):
    def test_twins_share_nothing(self):
        books = some_books()
        before = state(books)
        twin = books.twin()
        self.assertIsInstance(twin, Books)
        self.assertEqual(state(twin), before)
        twin.take_back(3)
        twin.next_day()
        twin.post(DIG, 5, PAIR)
        self.assertEqual(state(books), before)
        behind = state(twin)
        books.square([])
        books.next_day()
        self.assertEqual(state(twin), behind)
        self.assertEqual((twin.day, books.day, len(twin), len(books)), (3, 3, 6, 6))
        self.raises(NotReversible, [3], lambda: twin.take_back(3))

    def test_a_refused_call_changes_nothing(self):
        luck = random.Random(3)
        books = some_books()
        for _ in range(300):
            before = state(books)
            key, done, entries = random_key(luck), luck.randrange(-1, 3), random_entries(luck)[luck.randrange(2):]
            try:
                books.post(key, done, entries)
            except StandError:
                self.assertEqual(state(books), before)


if __name__ == "__main__":
    unittest.main()
