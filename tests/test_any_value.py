"""Where any value may be passed, over the whole program: an answer, or an error that is listed there."""

import unittest

from standworth.askings import Hire, Work
from standworth.books import Books
from standworth.cover import cover, cover_flow, flow_bound, loss, safe, worst_row
from standworth.dues import brings, dues, line_due, own_gain, stock, wish
from standworth.fitting import ceiling, fits, least_row, misfit, row_of
from standworth.gaps import gap, gap_range, least_way, row_with_gap
from standworth.house import House
from standworth.kept import Kept
from standworth.lands import Land
from standworth.led import Led
from standworth.lending import Lending
from standworth.more import gains_by_crews, grown, one_less, one_more, shrunk
from standworth.papers import look, paper_text
from standworth.plans import Plan, is_ring, is_way, steps_cost, turned
from standworth.postings import line_entries, posting
from standworth.ranges import amount_range, fate, fate_witness, range_plans
from standworth.rotas import Rota, earnings, put_together, trail
from standworth.settled import settled_plan
from standworth.ties import Ties
from standworth.webs import Web
from standworth.weeks import Week
from standworth.weektexts import read_head, read_week
from standworth.wishes import pair_misfit, second_plan, second_sum
from standworth.words import is_account, is_key, is_name, is_number, is_place, is_standing, number_in
from standworth.worths import Worths, joined, met
from tests.samples import odd_values, small_askings, small_land, small_web

QUAY, HILL, DIG = ("quay", 0), ("hill", 1), ("work", "dig")
HUGE = 10 ** 9 * 99 ** 2500
PAIR = (("ann", 5), ("bob", -5))


def more_values():
    """Odd values, those that are nearly right, and numbers that are too long to be written."""
    return [
        *odd_values(), HUGE, -HUGE, (HUGE,), [HUGE], ("quay", HUGE), ("buy", "quay", HUGE), {"quay": HUGE}, {QUAY: HUGE},
        {HUGE: 1}, {None: None}, {(): 1}, {(QUAY, HILL): HUGE}, [()], [[]], [{}], ((),), ({},), (QUAY,), [QUAY, QUAY],
        [(QUAY, 1)], [(QUAY, True)], [(DIG, 1)], [(DIG, -1), (DIG, 1)], [DIG], [DIG, None], {DIG: 1}, {DIG: True},
        {DIG: None}, ("ask", None), ("give", QUAY, HUGE), ("do", ((),)), [("do", (("give", QUAY, HUGE),))],
        [("undo",), ("day",)], (DIG, 0, PAIR), [(DIG, 0, PAIR), (DIG, 0, PAIR)], [(DIG, HUGE, PAIR)], PAIR, list(PAIR),
        [("ann", HUGE)], [("ann", HUGE), ("bob", -HUGE)], (QUAY, HILL, 5), [(QUAY, HILL, 5)], [(QUAY, HILL, HUGE)],
        "least", "dig", "ann", "week 2 10\n", "\n" * 400, "a" * 12000, "given quay 0 1", 10 ** 9, -10 ** 9,
        [None] * 400, [QUAY] * 61, {("quay", at): at for at in range(9)}, {"least": "least"}, ["least"], ("least",),
        [("quay", 0, None)], [("quay", "hill", 1, 2)], (0, DIG, 0, 0, None, PAIR), Rota, min, 0.5, b"quay",
    ]


def small_house():
    house = House(small_land())
    house.do(*[("ask", asking) for asking in small_askings()])
    return house


def small_led():
    led = Led(Week(small_land(), small_askings()))
    led.go()
    return led


def some_books():
    books = Books()
    books.post(DIG, 0, PAIR)
    return books


def some_lending():
    lending = Lending()
    lending.lend("ann", "bob", QUAY, 5)
    lending.lay("ann", 5)
    return lending


def all_calls():
    """Calls with one argument that may be any value, and the codes of the errors that are listed for it."""
    land, web = small_land(), small_web()
    plan, row = settled_plan(web), least_row(web)
    rota = Rota([("hire", "men")], last=QUAY)
    ties = Ties([QUAY, HILL], 10, [(QUAY, HILL, 2)])
    week, kept, house, led = Week(land, small_askings()), Kept(land), small_house(), small_led()
    books, lending = some_books(), some_lending()
    standing, name, key = "UnknownStanding", "UnknownName", "UnknownLine"
    asking = "InvalidAsking DuplicateName UnknownStanding AboveTop"
    given = "UnknownStanding InvalidNumber TooMany"
    entry = "InvalidEntry Uneven Occupied"
    return [
        (is_name, ""), (is_standing, ""), (is_place, ""), (is_key, ""), (is_account, ""), (number_in, ""),
        (lambda x: is_number(x, 0, 5), ""), (land.has, ""), (web.has_line, ""), (web.given_at, ""), (week.given_at, ""),
        (lambda x: x in week, ""), (lambda x: is_way(plan, x, QUAY, QUAY), ""), (lambda x: is_way(plan, [], x, x), ""),
        (lambda x: is_ring(plan, x), ""), (books.in_force, ""), (books.balance, ""),
        (lambda x: list(books.statement(x)), ""), (lending.deposit, ""), (lending.position, ""), (look, ""),
        (lambda x: lending.need(x, ties), ""), (lambda x: lending.gross_need(x, ties), ""),
        (lambda x: lending.called_in(x, row), ""),
        *[(lambda x, one=one: one == x, "") for one in (row, land, web, week, plan, rota, house, *small_askings())],
        (Worths, "InvalidWorths"), (row.worth, standing), (lambda x: row & x, "OtherStandings"),
        (lambda x: row | x, "OtherStandings"), (row.between, "OtherStandings"), (row.is_below, "OtherStandings"),
        (met, "InvalidWorths OtherStandings"), (lambda x: joined(row, x), "InvalidWorths OtherStandings"),
        (lambda x: Land(x, 1, [("quay", 0, None)]), "InvalidNumber"),
        (lambda x: Land(1, x, [("quay", 0, None)]), "InvalidNumber"), (lambda x: Land(1, 1, x), "InvalidYard TooMany"),
        (lambda x: Land(1, 1, [x]), "InvalidYard"), (lambda x: Land(1, 1, [("quay", 0, None)], roads=x), "InvalidRoad"),
        (land.yard, name), (lambda x: Work(x, "ann", QUAY, HILL, 1, 1), "InvalidName"),
        (lambda x: Work("dig", "ann", x, x, 1, 1), "InvalidStanding"), (lambda x: Hire("men", x, QUAY, 1, 1), "InvalidName"),
        (lambda x: Hire("men", "ann", x, 1, 1), "InvalidStanding"),
        (lambda x: Hire("men", "ann", QUAY, x, x, rank=x), "InvalidNumber"),
        (lambda x: Web(land, x), asking), (lambda x: Web(land, [x]), asking),
        (lambda x: Web(land, given=x), "InvalidGiven"), (lambda x: Web(land, given=[x]), "InvalidGiven"),
        (lambda x: Web(land, since=x), "InvalidNumber"), (web.asking, name), (web.line_sheet, key),
        (web.lines_from, standing), (web.lines_to, standing), (web.with_asking, asking), (web.without, name),
        (lambda x: web.with_given(x, 1), standing), (lambda x: web.with_given(QUAY, x), "InvalidNumber"),
        (lambda x: Week(land, given=x), "InvalidGiven"), (week.asking, name), (week.twin().ask, asking),
        (week.twin().withdraw, name), (lambda x: week.twin().change("dig", x, x), "InvalidNumber"),
        (lambda x: week.twin().give(x, 1), given), (lambda x: week.twin().give(QUAY, x), given),
        (lambda x: week.as_web(x), "InvalidNumber"), (Week.read, "InvalidText"), (read_week, "InvalidText"),
        (read_head, "InvalidText"), (lambda x: Plan(web, x), "InvalidAmounts OverRoom Unbalanced"), (plan.amount, key),
        (lambda x: steps_cost(web, x), "InvalidSteps"), (lambda x: turned(plan, x), "InvalidSteps"),
        (lambda x: misfit(plan, x), "OtherStandings"), (lambda x: fits(plan, x), "OtherStandings"),
        (lambda x: ceiling(web, x), "OtherStandings"), (lambda x: row_of(web, x), "InvalidName"),
        (lambda x: gap(row, x, x), standing), (lambda x: gap_range(web, x, x), standing),
        (lambda x: row_with_gap(web, QUAY, QUAY, x), "InvalidNumber NotReached"),
        (lambda x: least_way(plan, QUAY, x), standing), (lambda x: amount_range(web, x), key), (lambda x: fate(web, x), key),
        (lambda x: range_plans(web, x), key), (lambda x: fate_witness(web, x), key),
        (lambda x: list(one_more(web, x)), standing), (lambda x: list(one_less(web, QUAY, x)), "InvalidNumber"),
        (lambda x: gains_by_crews(web, x, 2), name), (lambda x: gains_by_crews(web, "dig", x), "InvalidNumber"),
        (lambda x: grown(plan, x), asking), (lambda x: shrunk(plan, x), name), (kept.twin().put, asking),
        (kept.take_off, name), (lambda x: kept.twin().give(x, 1), standing), (lambda x: kept.twin().give(QUAY, x), "InvalidNumber"),
        (kept.row, "InvalidName"), (Rota, "InvalidRota"), (lambda x: Rota([x]), "InvalidRota"),
        (lambda x: Rota([DIG], first=x), "InvalidStanding"), (lambda x: earnings(web, x), "InvalidRota"),
        (lambda x: list(trail(web, rota, x)), "OtherStandings"), (lambda x: put_together(web, [x]), "InvalidRota Unbalanced"),
        (lambda x: second_sum(plan, x), "InvalidSeconds"), (lambda x: second_plan(web, x), "InvalidSeconds"),
        (lambda x: pair_misfit(plan, {}, x), "InvalidWorths"), (lambda x: line_due(plan, row, x), key),
        (lambda x: dues(plan, x), "OtherStandings"), (lambda x: stock(web, x), "OtherStandings"),
        (lambda x: wish(web, row, x), name), (lambda x: own_gain(web, [x]), name), (lambda x: brings(web, x), name),
        (lambda x: books.twin().post(x, 0, PAIR), "InvalidKey Occupied"),
        (lambda x: books.twin().post(("hire", "men"), x, PAIR), "InvalidNumber"),
        (lambda x: books.twin().post(("hire", "men"), 0, x), entry), (lambda x: books.twin().post(DIG, 0, [x]), entry),
        (lambda x: books.twin().take_back(x), "UnknownNumber"), (lambda x: books.twin().square(x), entry),
        (lambda x: books.twin().square([x]), entry), (books.record, "UnknownNumber"),
        (lambda x: books.balance("ann", done=x), "InvalidNumber"), (lambda x: books.trial(known=x), "InvalidNumber"),
        (lambda x: posting(plan, x), "OtherStandings"), (lambda x: line_entries(plan, row, x), key),
        (lambda x: Ties(x, 5), "InvalidStanding"), (lambda x: Ties([x], 5), "InvalidStanding"),
        (lambda x: Ties([QUAY], x), "InvalidNumber"), (lambda x: Ties([QUAY], 5, x), "InvalidTie TooMany"),
        (lambda x: Ties([QUAY, HILL], 5, [x]), "InvalidTie"), (ties.broken_tie, "OtherStandings"),
        (ties.keeps, "OtherStandings"), (lambda x: loss(x, row), "InvalidOwed"), (lambda x: cover(ties, x), "InvalidOwed"),
        (lambda x: worst_row(ties, x), "InvalidOwed"), (lambda x: cover_flow(ties, x), "InvalidOwed"),
        (lambda x: flow_bound(ties, {}, x), "InvalidFlow NotFlow"), (lambda x: safe(ties, {}, x), "InvalidNumber"),
        (lambda x: safe(ties, x, 5), "InvalidOwed"), (lambda x: lending.twin().lend(x, "ann", QUAY, 1), "InvalidName"),
        (lambda x: lending.twin().lend("ann", x, QUAY, 1), "InvalidName"),
        (lambda x: lending.twin().lend("ann", "bob", x, 1), "InvalidStanding"),
        (lambda x: lending.twin().lend("ann", "bob", QUAY, x), "InvalidNumber"),
        (lambda x: lending.twin().give_back(x), "UnknownNumber"), (lambda x: lending.twin().lay(x, 1), "InvalidName"),
        (lambda x: lending.twin().lay("ann", x), "InvalidNumber"), (lambda x: Led(week, habit=x), "InvalidName"),
        (lambda x: led.twin().ask(x), f"{asking} Over"), (lambda x: led.twin().withdraw(x), f"{name} Over"),
        (lambda x: led.twin().change(x, 1, 1), f"{name} Over"), (lambda x: led.twin().change("mow", x, x), "InvalidNumber"),
        (lambda x: led.twin().give(x, 1), f"{given} Over"), (lambda x: led.twin().give(HILL, x), given),
        (lambda x: paper_text(plan, x), "OtherStandings"), (lambda x: house.twin().choose(x), "InvalidName"),
        (lambda x: house.twin().do(x), "InvalidDeed InvalidAsking UnknownStanding InvalidNumber"),
        (lambda x: house.tried(("ask", x)), asking), (lambda x: house.tried(("withdraw", x)), name),
        (lambda x: house.tried(("give", QUAY, x)), given), (lambda x: house.tried(("give", x, 1)), given),
        (lambda x: House.played(land, x), "InvalidDeed InvalidNumber NothingLeft"),
        (lambda x: House.played(land, [x]), "InvalidDeed InvalidNumber"),
        (lambda x: House.played(land, [("do", (("ask", x),))]), asking),
    ]


class AnyValueTest(unittest.TestCase):
    def test_nothing_but_the_listed_errors(self):
        for at, (call, codes) in enumerate(all_calls()):
            raised = 0
            for value in more_values():
                try:
                    call(value)
                except (ValueError, LookupError) as error:
                    self.assertIn(getattr(error, "code", error.__class__), codes.split(), f"call {at}")
                    raised += 1
            self.assertEqual(raised > 0, codes != "", f"call {at}")

    def test_lines_of_words_in_any_form(self):
        house = small_house()
        for value in more_values():
            if isinstance(value, str):
                self.assertIn(house(value), ("unknown", "error UnknownName"), value)


if __name__ == "__main__":
    unittest.main()
