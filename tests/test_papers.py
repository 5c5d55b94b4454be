import random
import unittest

from standworth.askings import Hire, Work
from standworth.best import best_plan
from standworth.errors import OtherStandings
from standworth.fitting import fits, greatest_row, least_row, middle_row, misfit
from standworth.lands import Land
from standworth.papers import look, paper_text
from standworth.plans import Plan
from standworth.settled import settled_plan
from standworth.webs import Web
from standworth.weeks import Week
from standworth.worths import Worths
from tests.reference import free_plan, large_web, tiny_webs
from tests.samples import Raising, odd_values, random_plan, small_askings, small_land, small_web, wide_given, wide_web

HEAD = ["week 1 10", "yard hill 0 -", "yard quay 1 4", "road hill quay 1 2",
        "work dig ann 0 quay 0 quay 1 3 6", "hire men bob 1 quay 0 2 3", "given hill 0 1", "end"]
AMOUNTS = ["amount 1 free hill 1", "amount 2 free quay 1", "amount 2 hire men", "amount 1 wait hill 0",
           "amount 2 work dig"]
WORTHS = ["worth hill 0 0", "worth hill 1 0", "worth quay 0 6", "worth quay 1 0"]
FULL = [*HEAD, *AMOUNTS, *WORTHS, "done"]
FIRST, THIRD = len(HEAD), len(HEAD) + len(AMOUNTS)


def joined_lines(lines):
    return "".join(f"{line}\n" for line in lines)


def changed(lines, at, *others):
    """Lines with others in the place of the one with an index."""
    return [*lines[:at], *others, *lines[at + 1:]]


def paper_web():
    land = Land(1, 10, [("quay", 1, 4), ("hill", 0, None)], roads=[("hill", "quay", 1, 2)])
    return Web(land, [Work("dig", "ann", ("quay", 0), ("quay", 1), 3, 6), Hire("men", "bob", ("quay", 0), 2, 3, rank=1)],
               given=[(("hill", 0), 1)])


def paper_plan():
    return Plan(paper_web(), {
        ("free", "hill", 1): 1, ("free", "quay", 1): 2, ("hire", "men"): 2, ("wait", "hill", 0): 1, ("work", "dig"): 2,
    })


def week_web(seed):
    """A large web whose given crews may stand in a week."""
    web = large_web(seed)
    return Web(web.land, web.askings(), given=wide_given())


class PaperTextTest(Raising):
    def test_by_hand(self):
        plan = paper_plan()
        row = Worths({("hill", 0): 0, ("hill", 1): 0, ("quay", 0): 6, ("quay", 1): 0})
        self.assertEqual(paper_text(plan, row), joined_lines(FULL))
        self.assertEqual(paper_text(plan=plan, row=row), joined_lines(FULL))
        self.assertEqual(look(joined_lines(FULL)), ("best", 6))
        self.assertEqual(look(text=joined_lines(FULL)), ("best", plan.gain))

    def test_rows_that_do_not_fit(self):
        plan = paper_plan()
        row = Worths({place: 999 * at // 3 for at, place in enumerate(plan.web.standings())})
        self.assertEqual(paper_text(plan, row), joined_lines([
            *HEAD, *AMOUNTS, "worth hill 0 0", "worth hill 1 333", "worth quay 0 666", "worth quay 1 999", "done",
        ]))
        self.assertEqual(look(paper_text(plan, row)), ("misfit", misfit(plan, row)))

    def test_nothing_in_a_plan(self):
        web = Web(Land(0, 1, [("a", 0, None)]))
        text = "week 0 1\nyard a 0 -\nend\nworth a 0 0\ndone\n"
        self.assertEqual(paper_text(Plan(web, {}), Worths({("a", 0): 0})), text)
        self.assertEqual(look(text), ("best", 0))

    def test_great_amounts(self):
        web = Web(Land(0, 1, [("a", 0, None)]))
        plan = Plan(web, {("buy", "a", 0): 999999, ("free", "a", 0): 999999})
        text = paper_text(plan, Worths({("a", 0): 999}))
        self.assertEqual(text.split("\n")[3:6], ["amount 999999 buy a 0", "amount 999999 free a 0", "worth a 0 999"])
        self.assertEqual(look(text), ("misfit", ("buy", "a", 0)))

    def test_other_standings(self):
        web = small_web()
        plan, row = best_plan(web), least_row(web)
        worths = row.worths()
        for value in [Worths({}), Worths({**worths, ("far", 0): 0}), row.part(1), worths, *odd_values()]:
            self.raises(OtherStandings, [], lambda: paper_text(plan, value))

    def check(self, plan, row):
        web = plan.web
        text = paper_text(plan, row)
        lines = text.split("\n")
        head = Week(web.land, web.askings(), given=web.given()).text()
        self.assertTrue(text.startswith(head))
        amounts = [f"amount {many} " + " ".join(str(item) for item in key) for key, many in plan.amounts().items()]
        worths = [f"worth {place[0]} {place[1]} {row.worth(place)}" for place in web.standings()]
        self.assertEqual(lines[head.count("\n"):], [*amounts, *worths, "done", ""])
        wanted = ("best", plan.gain) if fits(plan, row) else ("misfit", misfit(plan, row))
        self.assertEqual(look(text), wanted)

    def test_all_kinds(self):
        webs = [web for web, _ in tiny_webs(40) if web.since == 0]
        for web in [*webs, small_web(), wide_web(), week_web(1), week_web(2)]:
            rows = [least_row(web), greatest_row(web), middle_row(web)]
            rows.append(Worths({place: at * 17 % 1000 for at, place in enumerate(web.standings())}))
            for plan in (best_plan(web), settled_plan(web), free_plan(web), random_plan(web, 4)):
                for row in rows:
                    self.check(plan, row)


class LookTest(Raising):
    def wrong(self, lines, at, why):
        self.assertEqual(look(joined_lines(lines)), ("text", at, why), lines)

    def test_values_that_are_no_strings(self):
        for value in odd_values():
            if not isinstance(value, str):
                self.assertEqual(look(value), ("text", 0, "form"))
        self.assertEqual(look(""), ("text", 0, "missing"))
        self.assertEqual(look("\n"), ("text", 0, "form"))
        self.assertEqual(look("quay"), ("text", 0, "form"))

    def test_faults_of_the_text_of_the_week(self):
        faults = [
            (0, "week 9 10", "form"), (1, "yard hill 0 0", "form"), (2, "yard hill 1 4", "order"),
            (3, "road hill dock 1 2", "unknown"), (5, "hire men bob 1 quay 0 2 11", "top"),
            (5, "hire dig bob 1 quay 0 2 3", "double"), (6, "given hill 2 1", "unknown"), (7, "done", "form"),
            (7, "amount 1 free hill 1", "form"), (0, "", "form"),
        ]
        for at, line, why in faults:
            self.wrong(changed(FULL, at, line), at, why)
        self.wrong([*HEAD[:2], *[f"yard {name} 0 -" for name in ("ia", "ib", "ic", "id", "ie", "if")]], 7, "many")
        self.wrong(HEAD[:-1], 7, "missing")

    def test_texts_that_end_too_early(self):
        for at in range(len(FULL)):
            self.wrong(FULL[:at], at, "missing")
            if at:
                self.assertEqual(look(joined_lines(FULL[:at]) + FULL[at][:-1]), ("text", at, "form"))
            self.assertEqual(look(joined_lines(FULL[:at]) + FULL[at]), ("text", at, "form"))

    def test_behind_done_nothing_stands(self):
        for line in ["", "done", "end", "worth quay 1 0", " "]:
            self.wrong([*FULL, line], len(FULL), "form")
        self.assertEqual(look(joined_lines(FULL) + " "), ("text", len(FULL), "form"))
        self.wrong([*HEAD, "done", "done"], FIRST + 1, "form")

    def test_forms_of_amounts(self):
        wrong = [
            "amount 0 free hill 1", "amount 1000000 free hill 1", "amount 01 free hill 1", "amount -1 free hill 1",
            "amount 1 free hill 9", "amount 1 free hill 01", "amount 1 free hill", "amount 1 free", "amount 1", "amount",
            "amount 1 free hill 1 1", "amount  1 free hill 1", "amount 1 free  hill 1", "amount 1 free hill 1 ",
            " amount 1 free hill 1", "amount 1 Free hill 1", "amount 1 free Hill 1", "amount 1 free hill x",
            "amount free hill 1", "amount 1 walk hill hill 0", "amount 1 walk hill quay", "amount 1 walk hill 0",
            "amount 1 hire 1", "amount 1 hire men 0", "amount 1 hire", "amount 1 work Dig", "amount 1 work seventh",
            "amount 1 lend hill 1", "amount 1 7", "amount 1 free hill -1", "amount 1 ", "amount x free hill 1",
            "amounts 1 free hill 1", "week 1 10", "end", "given hill 0 1", "x", "", " ", "worth", "done ",
            "amount 1 free hill 1000000000", "amount 1000000000 free hill 1", "amount 1 free hill 1\\",
        ]
        for line in wrong:
            self.wrong(changed(FULL, FIRST, line), FIRST, "form")
            self.wrong([*HEAD, *AMOUNTS, line], THIRD, "form")
            self.wrong(changed(FULL, THIRD + 2, line), THIRD + 2, "form")

    def test_forms_of_worths(self):
        wrong = [
            "worth quay 0 1000", "worth quay 0 -1", "worth quay 0 06", "worth quay 0", "worth quay 9 6", "worth quay 6",
            "worth quay 0 6 6", "worth  quay 0 6", "worth Quay 0 6", "worth quay 00 6", "worth 0 quay 6", "worth quay x 6",
            "worth quay 0 x", "worth quay 0 ", "worth quay 0 6 ", "worth quay 0 +6", "worth quay 0 1000000000",
        ]
        for line in wrong:
            self.wrong(changed(FULL, THIRD + 2, line), THIRD + 2, "form")
            self.wrong(changed(FULL, FIRST, line), FIRST, "form")

    def test_amounts_stand_ahead_of_worths(self):
        self.wrong([*HEAD, WORTHS[0], *AMOUNTS], FIRST + 1, "form")
        self.wrong([*HEAD, *AMOUNTS[:2], *WORTHS[:1], AMOUNTS[2]], FIRST + 3, "form")

    def test_order(self):
        for at in range(FIRST, THIRD - 1):
            self.wrong(changed(FULL, at + 1, FULL[at]), at + 1, "order")
            self.wrong([*FULL[:at], FULL[at + 1], FULL[at]], at + 1, "order")
        for at in range(THIRD, len(FULL) - 2):
            self.wrong(changed(FULL, at + 1, FULL[at]), at + 1, "order")
            self.wrong([*FULL[:at], FULL[at + 1], FULL[at]], at + 1, "order")
        self.wrong(changed(FULL, FIRST + 1, "amount 9 free hill 1"), FIRST + 1, "order")
        self.wrong(changed(FULL, THIRD + 1, "worth hill 0 5"), THIRD + 1, "order")

    def test_unknown(self):
        unknown = ["buy dock 0", "free hill 2", "wait hill 1", "wait hill 8", "walk hill quay 1", "walk quay hill 0",
                   "work men", "hire dig", "hire none", "walk hill dock 0"]
        for key in unknown:
            self.wrong([*HEAD, f"amount 1 {key}"], FIRST, "unknown")
        for place in ("dock 0", "hill 2", "hill 8", "abbey 0"):
            self.wrong([*HEAD, f"worth {place} 5"], FIRST, "unknown")
            self.wrong([*HEAD, *AMOUNTS, f"worth {place} 5", "x"], THIRD, "unknown")

    def test_form_then_order_then_unknown(self):
        self.wrong([*HEAD, "amount 1 free hill 1", "amount 1 buy dock 0"], FIRST + 1, "order")
        self.wrong([*HEAD, "amount 1 free hill 1", "amount 1 walk quay hill 0"], FIRST + 1, "unknown")
        self.wrong([*HEAD, "worth hill 1 0", "worth dock 0 0"], FIRST + 1, "order")
        self.wrong([*HEAD, "worth hill 1 0", "worth dock 0 1000"], FIRST + 1, "form")
        self.wrong([*HEAD, "worth hill 1 0", "worth hill 2 0"], FIRST + 1, "unknown")
        self.wrong([*HEAD, "worth quay 1 0", "amount 1 buy dock 0"], FIRST + 1, "form")

    def test_the_first_wrong_line(self):
        self.wrong([*HEAD, "amount 1 free hill 2", "x", "x"], FIRST, "unknown")
        self.wrong(["week 1 0", *FULL[1:], "x"], 0, "form")

    def test_rooms(self):
        """The first line above its room, whatever else is wrong."""
        lines = [*HEAD, "amount 3 hire men", "amount 5 wait quay 0", "amount 4 work dig", "worth quay 1 999", "done"]
        self.assertEqual(look(joined_lines(lines)), ("room", ("hire", "men")))
        lines[FIRST] = "amount 2 hire men"
        self.assertEqual(look(joined_lines(lines)), ("room", ("wait", "quay", 0)))
        lines[FIRST + 1] = "amount 4 wait quay 0"
        self.assertEqual(look(joined_lines(lines)), ("room", ("work", "dig")))
        lines[FIRST + 2] = "amount 3 work dig"
        self.assertEqual(look(joined_lines(lines)), ("balance", ("hill", 0)))

    def test_balances(self):
        lines = changed(FULL, FIRST + 3, "amount 2 wait hill 0")
        self.assertEqual(look(joined_lines(lines)), ("balance", ("hill", 0)))
        lines = changed(FULL, FIRST, "amount 2 free hill 1")
        self.assertEqual(look(joined_lines(lines[:THIRD] + ["done"])), ("balance", ("hill", 1)))
        lines = changed(FULL, FIRST + 2, "amount 1 hire men")
        self.assertEqual(look(joined_lines(lines)), ("balance", ("quay", 0)))
        self.assertEqual(look(joined_lines([*HEAD, "done"])), ("balance", ("hill", 0)))

    def test_worths_that_are_not_told(self):
        places = [("hill", 0), ("hill", 1), ("quay", 0), ("quay", 1)]
        for at, place in enumerate(places):
            lines = changed(changed(FULL, THIRD + 2, "worth quay 0 999"), THIRD + at)
            self.assertEqual(look(joined_lines(lines)), ("worth", place))
        self.assertEqual(look(joined_lines([*HEAD, *AMOUNTS, "done"])), ("worth", ("hill", 0)))

    def test_misfits(self):
        for line, key in [("worth quay 0 2", ("hire", "men")), ("worth quay 0 7", ("work", "dig")),
                          ("worth quay 0 11", ("buy", "quay", 0))]:
            self.assertEqual(look(joined_lines(changed(FULL, THIRD + 2, line))), ("misfit", key))
        for worth in (3, 4, 5, 6):
            lines = changed(FULL, THIRD + 2, f"worth quay 0 {worth}")
            wanted = ("best", 6) if worth == 6 else ("misfit", ("work", "dig"))
            self.assertEqual(look(joined_lines(lines)), wanted)

    def test_mixed_lines_of_good_papers(self):
        luck = random.Random(4)
        seen = {}
        web = wide_web()
        text = paper_text(settled_plan(web), middle_row(web))
        lines = text.split("\n")[:-1]
        head = len(lines) - lines[::-1].index("end")
        for _ in range(600):
            mixed = list(lines)
            at, other = luck.randrange(head, len(lines)), luck.randrange(len(lines))
            kind = luck.randrange(4)
            if kind == 0:
                del mixed[at]
            elif kind == 1:
                mixed[at] = lines[other]
            elif kind == 2:
                mixed.insert(at, lines[other])
            else:
                words = mixed[at].split(" ")
                words[luck.randrange(len(words))] = luck.choice(["0", "1", "7", "elm", "work", "", "999"])
                mixed[at] = " ".join(words)
            told = look(joined_lines(mixed))
            seen[told[0] if told[0] != "text" else told[::2]] = True
            if told[0] == "text":
                self.assertIn(told[1], (at, at + 1, len(mixed)))
        self.assertGreaterEqual(set(seen), {
            ("text", "form"), ("text", "order"), ("text", "unknown"), ("text", "missing"), "balance", "worth", "misfit",
        })


if __name__ == "__main__":
    unittest.main()
