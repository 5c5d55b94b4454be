import random
import unittest

from standworth.cover import cover, safe
from standworth.errors import (
    InvalidName, InvalidNumber, InvalidOwed, InvalidStanding, NoRow, StandError, TooMany, UnknownNumber,
)
from standworth.fitting import greatest_row, least_row, middle_row
from standworth.lending import Lending
from standworth.ties import Ties, ties_of
from standworth.worths import Worths
from tests.reference import large_webs
from tests.samples import Raising, is_one_of, odd_values, wide_web
from tests.test_ties import A, B, C, large_ties

CAMPS = ["ann", "bob", "cyd", "dan", "eve"]
STANDINGS = [A, B, C, ("a", 8)]
TIES = Ties(STANDINGS, 10, [(A, B, 2), (B, C, 1), (C, A, 3), (("a", 8), A, 0)])


def state(lending):
    """All that a lending tells of itself."""
    camps = lending.camps()
    return (
        lending.loans(), camps, [lending.deposit(camp) for camp in camps],
        [lending.position(camp) for camp in camps], len(lending), repr(lending),
    )


def some_lending():
    lending = Lending()
    lending.lend("bob", "ann", A, 5)
    lending.lend("ann", "cyd", A, 3)
    lending.lend("cyd", "bob", B, 2)
    lending.lend("ann", "bob", B, 2)
    lending.lay("ann", 30)
    lending.lay("dan", 7)
    return lending


def random_lending(seed, loans=12, standings=STANDINGS, crews=9):
    luck = random.Random(seed)
    lending = Lending()
    for _ in range(loans):
        lending.lend(*luck.sample(CAMPS, 2), luck.choice(standings), luck.randrange(1, crews + 1))
    for camp in CAMPS[luck.randrange(4):]:
        lending.lay(camp, luck.randrange(200))
    return lending


def positions_by_words(lending):
    owed = {}
    for _, lender, borrower, standing, crews in lending.loans():
        owed[(borrower, standing)] = owed.get((borrower, standing), 0) + crews
        owed[(lender, standing)] = owed.get((lender, standing), 0) - crews
    return {each: many for each, many in owed.items() if many}


def netted_by_words(lending):
    """The loans of a netted lending, one crew after the other."""
    owed = positions_by_words(lending)
    loans = []
    for standing in sorted({each[1] for each in owed}):
        owing = [camp for camp in CAMPS for _ in range(owed.get((camp, standing), 0))]
        claiming = [camp for camp in CAMPS for _ in range(-owed.get((camp, standing), 0))]
        for lender, borrower in zip(claiming, owing):
            if loans and loans[-1][1:4] == (lender, borrower, standing):
                loans[-1] = (*loans[-1][:4], loans[-1][4] + 1)
            else:
                loans.append((len(loans), lender, borrower, standing, 1))
    return loans


class LoansTest(Raising):
    def test_by_hand(self):
        lending = some_lending()
        self.assertEqual(lending.loans(), [
            (0, "bob", "ann", A, 5), (1, "ann", "cyd", A, 3), (2, "cyd", "bob", B, 2), (3, "ann", "bob", B, 2),
        ])
        self.assertEqual(lending.camps(), ["ann", "bob", "cyd", "dan"])
        self.assertEqual([lending.deposit(camp) for camp in ("ann", "bob", "dan", "eve")], [30, 0, 7, 0])
        self.assertEqual(lending.position("ann"), {A: 2, B: -2})
        self.assertEqual(list(lending.position("ann")), [A, B])
        self.assertEqual(lending.position("bob"), {A: -5, B: 4})
        self.assertEqual(lending.position(camp="cyd"), {A: 3, B: -2})
        self.assertEqual([lending.position(camp) for camp in ("dan", "eve", A, B, 0, 5)], [{}] * 6)
        self.assertEqual((len(lending), repr(lending), bool(lending)), (4, "Lending(4 loans)", True))
        self.assertEqual(lending.deposit(camp="ann"), 30)

    def test_nothing_lent(self):
        lending = Lending()
        self.assertEqual((lending.loans(), lending.camps(), len(lending)), ([], [], 0))
        self.assertEqual((repr(lending), bool(lending)), ("Lending(0 loans)", True))
        self.assertEqual(state(lending.netted()), state(lending))

    def test_numbers_are_never_used_twice(self):
        lending = Lending()
        told = []
        for _ in range(5):
            told.append(lending.lend(lender="ann", borrower="bob", standing=A, crews=1))
            told.append(lending.lend("bob", "ann", A, 99))
            self.assertIsNone(lending.give_back(number=told[-1]))
        self.assertEqual(told, list(range(10)))
        self.assertEqual([loan[0] for loan in lending.loans()], [0, 2, 4, 6, 8])
        for number in (0, 2, 4, 6, 8):
            lending.give_back(number)
        self.assertEqual(lending.lend("ann", "bob", A, 1), 10)

    def refuses(self, lending, error, told, call):
        before = state(lending)
        self.raises(error, told, call)
        self.assertEqual(state(lending), before)

    def test_wrong_loans(self):
        lending = some_lending()
        for value in odd_values() + ["Ann", "ann ", ["ann"], "abcdefg"]:
            if not is_one_of(value, ["quay"]):
                self.refuses(lending, InvalidName, [value], lambda: lending.lend(value, None, None, None))
                self.refuses(lending, InvalidName, [value], lambda: lending.lend("ann", value, None, None))
        self.refuses(lending, InvalidName, ["ann"], lambda: lending.lend("ann", "ann", None, None))
        for value in odd_values() + [("a", True), ("a", 9), ["a", 0], ()]:
            if not is_one_of(value, [("quay", 1), ("far", 0)]):
                self.refuses(lending, InvalidStanding, [value], lambda: lending.lend("ann", "bob", value, None))
        for value in odd_values() + [0, 100, -1]:
            if not is_one_of(value, [1, 8, 9]):
                self.refuses(lending, InvalidNumber, [value], lambda: lending.lend("ann", "bob", A, value))

    def test_forty_loans(self):
        lending = random_lending(1, loans=40)
        self.assertEqual(len(lending), 40)
        self.refuses(lending, TooMany, [40], lambda: lending.lend("ann", "bob", A, 1))
        self.refuses(lending, InvalidNumber, [100], lambda: lending.lend("ann", "bob", A, 100))
        lending.give_back(17)
        self.assertEqual(lending.lend("ann", "bob", A, 99), 40)
        self.refuses(lending, TooMany, [40], lambda: lending.lend("ann", "bob", A, 1))

    def test_crews_of_99_and_one_more(self):
        lending = Lending()
        lending.lend("ann", "bob", A, 99)
        self.refuses(lending, InvalidNumber, [100], lambda: lending.lend("ann", "bob", A, 100))
        lending.lend("ann", "bob", A, 1)
        self.assertEqual(lending.position("bob"), {A: 100})
        self.assertEqual(lending.netted().loans(), [(0, "ann", "bob", A, 100)])

    def test_unknown_numbers(self):
        lending = some_lending()
        lending.give_back(1)
        for value in odd_values() + [4, -1, "0", [0], (0,)]:
            if not is_one_of(value, [0]):
                self.refuses(lending, UnknownNumber, [value], lambda: lending.give_back(value))
        self.refuses(lending, UnknownNumber, [1], lambda: lending.give_back(1))

    def test_deposits(self):
        lending = some_lending()
        for value in odd_values() + ["Ann", ["ann"]]:
            if not is_one_of(value, ["quay"]):
                self.refuses(lending, InvalidName, [value], lambda: lending.lay(value, None))
                self.assertEqual((lending.deposit(value), lending.position(value)), (0, {}))
        for value in odd_values() + [-31, -10 ** 9]:
            if not isinstance(value, int) or isinstance(value, bool) or value < -30:
                self.refuses(lending, InvalidNumber, [value], lambda: lending.lay("ann", value))
        self.assertIsNone(lending.lay(camp="ann", money=-30))
        self.assertEqual((lending.deposit("ann"), lending.camps()), (0, ["ann", "bob", "cyd", "dan"]))
        self.refuses(lending, InvalidNumber, [-1], lambda: lending.lay("ann", -1))
        lending.lay("dan", -6)
        self.assertEqual(lending.camps(), ["ann", "bob", "cyd", "dan"])
        lending.lay("dan", -1)
        lending.lay("eve", 0)
        self.assertEqual(lending.camps(), ["ann", "bob", "cyd"])
        self.refuses(lending, InvalidNumber, [-1], lambda: lending.lay("gus", -1))
        lending.lay("ann", 10 ** 9)
        self.assertEqual(lending.deposit("ann"), 10 ** 9)

    def test_positions_by_words(self):
        for seed in range(60):
            lending = random_lending(seed, loans=seed % 41)
            wanted = positions_by_words(lending)
            for camp in CAMPS:
                told = lending.position(camp)
                self.assertEqual(told, {each[1]: wanted[each] for each in wanted if each[0] == camp})
                self.assertEqual(list(told), sorted(told))
            named = {camp for loan in lending.loans() for camp in loan[1:3]}
            self.assertEqual(lending.camps(), sorted(named | {camp for camp in CAMPS if lending.deposit(camp)}))

    def test_told_lists_are_new(self):
        lending = some_lending()
        before = state(lending)
        lending.loans().clear()
        lending.camps().clear()
        lending.position("ann").clear()
        self.assertEqual(state(lending), before)

    def test_twins_share_nothing(self):
        lending = some_lending()
        lending.give_back(3)
        twin = lending.twin()
        before = state(lending)
        self.assertIsInstance(twin, Lending)
        self.assertEqual(state(twin), before)
        self.assertEqual(twin.lend("eve", "ann", C, 1), 4)
        twin.give_back(0)
        twin.lay("ann", 1)
        self.assertEqual(state(lending), before)
        behind = state(twin)
        lending.lay("bob", 9)
        lending.give_back(1)
        self.assertEqual(state(twin), behind)
        self.assertEqual(lending.lend("eve", "ann", C, 1), 4)


class NeedTest(Raising):
    def test_by_hand(self):
        lending = some_lending()
        ties = Ties([A, B], 10, [(A, B, 2), (B, A, 4)])
        self.assertEqual(lending.need("ann", ties), 8)
        self.assertEqual(lending.gross_need("ann", ties), 50)
        self.assertEqual(lending.need(camp="bob", ties=ties), 8)
        self.assertEqual(lending.gross_need(camp="bob", ties=ties), 40)

    def test_a_camp_needs_at_most_its_gross_need(self):
        less = 0
        for seed in range(40):
            lending = random_lending(seed)
            for camp in CAMPS:
                need, gross = lending.need(camp, TIES), lending.gross_need(camp, TIES)
                self.assertEqual(need, cover(TIES, lending.position(camp)))
                singles = [
                    cover(TIES, {loan[3]: loan[4] if loan[2] == camp else -loan[4]})
                    for loan in lending.loans() if camp in loan[1:3]
                ]
                self.assertEqual(gross, sum(singles))
                self.assertLessEqual(need, gross)
                less += need < gross
        self.assertGreater(less, 50)

    def test_ties_of_large_webs(self):
        for web in [wide_web(), next(large_webs())]:
            ties = ties_of(web)
            lending = random_lending(4, loans=40, standings=web.standings(), crews=99)
            for camp in CAMPS:
                self.assertLessEqual(lending.need(camp, ties), lending.gross_need(camp, ties))
                self.assertEqual(lending.need(camp, ties), lending.netted().need(camp, ties))

    def test_values_without_loans(self):
        lending = some_lending()
        broken = Ties([B], 5, [(B, (), -6)])
        for value in [*odd_values(), "dan", "eve", ["ann"], A, B, (0, "bob")]:
            for ties in (TIES, broken, None):
                self.assertEqual((lending.need(value, ties), lending.gross_need(value, ties)), (0, 0))

    def test_errors_in_order(self):
        lending = Lending()
        lending.lend("ann", "bob", A, 2)
        lending.lend("bob", "ann", A, 2)
        lending.lend("ann", "cyd", B, 2)
        without = Ties([B, C], 5, [(B, (), -6)])
        broken = Ties([A, B], 5, [(B, (), -6)])
        for camp in ("ann", "bob"):
            for call in (lending.need, lending.gross_need):
                self.raises(InvalidOwed, [], lambda: call(camp, without))
                with self.assertRaises(NoRow) as caught:
                    call(camp, broken)
                self.assertEqual(sorted(caught.exception.ring), [((), B, 5), (B, (), -6)])
        lending.lend("cyd", "bob", C, 1)
        for call in (lending.need, lending.gross_need):
            self.raises(InvalidOwed, [], lambda: call("bob", broken))
        lending.give_back(3)
        self.assertEqual((lending.position("bob"), lending.need("bob", Ties([A], 5))), ({}, 0))
        self.assertEqual(lending.gross_need("bob", Ties([A], 5)), 10)
        self.raises(InvalidOwed, [], lambda: lending.need("cyd", Ties([A], 5)))


class NettedTest(Raising):
    def test_by_hand(self):
        lending = some_lending()
        lending.lend("eve", "dan", A, 4)
        other = lending.netted()
        self.assertEqual(other.loans(), [
            (0, "bob", "ann", A, 2), (1, "bob", "cyd", A, 3), (2, "eve", "dan", A, 4),
            (3, "ann", "bob", B, 2), (4, "cyd", "bob", B, 2),
        ])
        self.assertEqual((other.deposit("ann"), other.deposit("dan")), (30, 7))
        self.assertEqual(other.lend("ann", "bob", C, 1), 5)

    def test_by_words(self):
        for seed in range(120):
            lending = random_lending(seed, loans=seed % 41, crews=40)
            before = state(lending)
            other = lending.netted()
            self.assertIsInstance(other, Lending)
            self.assertEqual(other.loans(), netted_by_words(lending))
            self.assertEqual(positions_by_words(other), positions_by_words(lending))
            for camp in CAMPS:
                self.assertEqual(other.position(camp), lending.position(camp))
                self.assertEqual(other.deposit(camp), lending.deposit(camp))
            self.assertEqual(state(other.netted()), state(other))
            self.assertEqual(state(lending), before)
            if len(other) < 40:
                self.assertEqual(other.lend("ann", "bob", A, 1), len(other) - 1)

    def test_more_than_forty_loans(self):
        lending = Lending()
        letters = "abcdefghijklmnopqrstuvwxyz"
        for at in range(40):
            lending.lend(f"one{letters[at % 20]}", f"two{letters[at % 21]}", ("quay", at % 2), 1 + at * 2)
        other = lending.netted()
        self.assertGreater(len(other), 40)
        for camp in lending.camps():
            self.assertEqual(other.position(camp), lending.position(camp))
        self.assertEqual([loan[0] for loan in other.loans()], list(range(len(other))))
        self.raises(TooMany, [40], lambda: other.lend("ann", "bob", A, 1))
        while len(other) >= 40:
            self.raises(TooMany, [40], lambda: other.lend("ann", "bob", A, 1))
            other.give_back(other.loans()[0][0])
        self.assertEqual(other.lend("ann", "bob", A, 1), len(lending.netted()))

    def test_twins_of_what_is_netted(self):
        lending = some_lending()
        other = lending.netted()
        before = state(other)
        lending.lay("ann", 100)
        lending.give_back(0)
        self.assertEqual(state(other), before)
        here = state(lending)
        other.lay("bob", 3)
        other.lend("ann", "bob", C, 4)
        self.assertEqual(state(lending), here)

    def test_nothing_is_left(self):
        lending = Lending()
        lending.lend("ann", "bob", A, 5)
        lending.lend("bob", "cyd", A, 5)
        lending.lend("cyd", "ann", A, 5)
        lending.lay("bob", 4)
        other = lending.netted()
        self.assertEqual((other.loans(), other.camps(), other.deposit("bob")), ([], ["bob"], 4))
        self.assertEqual(other.lend("ann", "bob", A, 1), 0)


class CalledInTest(Raising):
    def test_by_hand(self):
        lending = Lending()
        lending.lend("ann", "bob", A, 3)
        lending.lend("bob", "cyd", B, 2)
        lending.lend("cyd", "bob", B, 4)
        lending.lend("dan", "bob", A, 1)
        lending.lay("bob", 9)
        row = Worths({A: 5, B: 3})
        before = state(lending)
        self.assertEqual(lending.called_in("bob", row), [(0, "ann", 15, 15), (2, "cyd", 12, 0), (3, "dan", 5, 0)])
        lending.lay("bob", 10)
        self.assertEqual(lending.called_in(camp="bob", row=row), [(0, "ann", 15, 15), (2, "cyd", 12, 10), (3, "dan", 5, 0)])
        lending.lay("bob", 7)
        self.assertEqual(lending.called_in("bob", row), [(0, "ann", 15, 15), (2, "cyd", 12, 12), (3, "dan", 5, 5)])
        lending.lay("bob", -17)
        self.assertEqual(state(lending), before)
        self.assertEqual(lending.called_in("cyd", row), [(1, "bob", 6, 6)])
        self.assertEqual((lending.called_in("ann", row), lending.called_in("dan", row)), ([], []))
        self.assertEqual(lending.called_in("bob", Worths({A: 0, B: 0})),
                         [(0, "ann", 0, 0), (2, "cyd", 0, 0), (3, "dan", 0, 0)])

    def test_values_without_loans(self):
        lending = some_lending()
        for value in [*odd_values(), "dan", "eve"]:
            self.assertEqual(lending.called_in(value, Worths({})), [])

    def test_other_standings(self):
        lending = some_lending()
        for camp in ("ann", "bob", "cyd"):
            for worths in ({}, {A: 1}, {B: 1}, {A: 1, C: 1}):
                self.raises(InvalidOwed, [], lambda: lending.called_in(camp, Worths(worths)))
        lending.give_back(2)
        lending.give_back(3)
        self.assertEqual(lending.called_in("cyd", Worths({A: 4, C: 1})), [(1, "ann", 12, 0)])

    def check(self, lending, ties, rows):
        """What is paid, and that everything is where the deposit is enough for all rows."""
        paid_up = 0
        for camp in CAMPS:
            for row in rows:
                self.assertIs(ties.keeps(row), True)
                told = lending.called_in(camp, row)
                loans = [loan for loan in lending.loans() if loan[2] == camp]
                self.assertEqual([each[:3] for each in told],
                                 [(loan[0], loan[1], loan[4] * row.worth(loan[3])) for loan in loans])
                money = lending.deposit(camp) + sum(
                    loan[4] * row.worth(loan[3]) for loan in lending.loans() if loan[1] == camp)
                for _, _, due, paid in told:
                    self.assertEqual(paid, min(due, money))
                    money -= paid
                if told and safe(ties, lending.position(camp), lending.deposit(camp))[0] == "safe":
                    self.assertTrue(all(due == paid for _, _, due, paid in told))
                    paid_up += 1
        return paid_up

    def test_facts(self):
        rows = [TIES.least_kept(), TIES.greatest_kept()]
        rows.append(rows[0].between(rows[1]))
        paid_up = 0
        for seed in range(60):
            lending = random_lending(seed)
            paid_up += self.check(lending, TIES, rows)
            for camp in CAMPS:
                lending.lay(camp, max(0, lending.need(camp, TIES) - lending.deposit(camp)))
            paid_up += self.check(lending, TIES, rows) + self.check(lending.netted(), TIES, rows)
        self.assertGreater(paid_up, 100)

    def test_facts_on_large_ties_and_webs(self):
        ties, row = large_ties(3)
        lending = random_lending(3, loans=40, standings=ties.standings(), crews=99)
        self.check(lending, ties, [row])
        for camp in CAMPS:
            lending.lay(camp, max(0, lending.need(camp, ties) - lending.deposit(camp)))
        self.assertGreater(self.check(lending, ties, [row, ties.least_kept(), ties.greatest_kept()]), 0)
        web = wide_web()
        lending = random_lending(5, loans=40, standings=web.standings(), crews=99)
        for camp in CAMPS:
            lending.lay(camp, max(0, lending.need(camp, ties_of(web)) - lending.deposit(camp)))
        rows = [least_row(web), greatest_row(web), middle_row(web)]
        self.assertGreater(self.check(lending, ties_of(web), rows), 10)


class RandomTest(Raising):
    def test_refused_calls_change_nothing(self):
        for seed in range(30):
            luck = random.Random(seed)
            lending, next_number = Lending(), 0
            for _ in range(60):
                before = state(lending)
                try:
                    kind = luck.choice(["lend", "lend", "back", "lay"])
                    if kind == "lend":
                        number = lending.lend(*luck.choices(CAMPS, k=2), luck.choice(STANDINGS), luck.randrange(102))
                        self.assertEqual(number, next_number)
                        next_number += 1
                    elif kind == "back":
                        lending.give_back(luck.randrange(next_number + 2))
                    else:
                        lending.lay(luck.choice(CAMPS), luck.randrange(-50, 60))
                except (StandError, UnknownNumber):
                    self.assertEqual(state(lending), before)


if __name__ == "__main__":
    unittest.main()
