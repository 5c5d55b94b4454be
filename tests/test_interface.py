"""The names, arguments and places of definition that the document lists."""

import importlib
import inspect
import unittest

FUNCTIONS = {
    "words": [
        "is_name(value)", "is_standing(value)", "is_place(value)", "is_number(value, least, most)", "is_key(value)",
        "is_account(value)", "account_of(standing)", "number_in(text)",
    ],
    "worths": ["met(*rows)", "joined(*rows)"],
    "weektexts": ["week_text(week)", "read_week(text)", "read_head(text)"],
    "plans": [
        "steps_cost(web, steps)", "is_way(plan, steps, start, end)", "is_ring(plan, steps)",
        "turned(plan, ring, many=1)",
    ],
    "best": ["best_plan(web)", "best_gain(web)", "is_best(plan)", "better_ring(plan)", "judge(plan)"],
    "fitting": [
        "misfit(plan, row)", "fits(plan, row)", "ceiling(web, row)", "least_row(web)", "greatest_row(web)",
        "middle_row(web)", "row_of(web, habit)", "ends(web)",
    ],
    "gaps": [
        "gap(row, one, other)", "gap_range(web, one, other)", "row_with_gap(web, one, other, wanted)",
        "least_way(plan, start, end)",
    ],
    "settled": ["settled_plan(web)"],
    "ranges": ["amount_range(web, key)", "range_plans(web, key)", "fate(web, key)", "fate_witness(web, key)"],
    "more": [
        "one_more(web, standing, most=20)", "one_less(web, standing, most=20)", "gains_by_crews(web, name, most)",
        "grown(plan, asking)", "shrunk(plan, name)",
    ],
    "rotas": [
        "follows(web, rota)", "earnings(web, rota)", "trail(web, rota, row)", "parted(plan)",
        "put_together(web, rotas)",
    ],
    "wishes": [
        "second_sum(plan, seconds)", "second_plan(web, seconds)", "pair_row(web, seconds)",
        "pair_misfit(plan, seconds, pairs)", "fewest_crews(web)",
    ],
    "dues": [
        "line_due(plan, row, key)", "dues(plan, row)", "stock(web, row)", "wish(web, row, owner)",
        "own_gain(web, owners)", "brings(web, owner)",
    ],
    "postings": ["line_entries(plan, row, key)", "posting(plan, row)"],
    "ties": ["ties_of(web)"],
    "cover": [
        "loss(owed, row)", "cover(ties, owed)", "worst_row(ties, owed)", "cover_flow(ties, owed)",
        "flow_bound(ties, owed, flow)", "safe(ties, owed, money)",
    ],
    "papers": ["paper_text(plan, row)", "look(text)"],
}
GENERATORS = ["more.one_more", "more.one_less", "rotas.trail", "books.Books.statement"]
CLASSES = {
    "worths.Worths": [
        "__init__(self, worths)", "worth(self, place)", "standings(self)", "worths(self)", "__and__(self, other)",
        "__or__(self, other)", "between(self, other)", "is_below(self, other)", "part(self, since)",
        "__eq__(self, other)", "__len__(self)", "__repr__(self)",
    ],
    "lands.Land": [
        "__init__(self, last, top, yards, *, roads=())", "yards(self)", "roads(self)", "yard(self, name)",
        "standings(self, since=0)", "has(self, standing)", "__eq__(self, other)", "__len__(self)", "__repr__(self)",
    ],
    "askings.Asking": ["__init__(self, name, owner, crews, price, rank)"],
    "askings.Work": [
        "__init__(self, name, owner, start, end, crews, price, *, rank=0)", "with_terms(self, crews, price)",
        "text(self)", "__eq__(self, other)", "__repr__(self)",
    ],
    "askings.Hire": [
        "__init__(self, name, owner, end, crews, price, *, rank=0)", "with_terms(self, crews, price)", "text(self)",
        "__eq__(self, other)", "__repr__(self)",
    ],
    "webs.Web": [
        "__init__(self, land, askings=(), *, given=(), since=0)", "askings(self)", "asking(self, name)", "given(self)",
        "given_at(self, standing)", "standings(self)", "places(self)", "owners(self)", "line_keys(self)",
        "line_sheet(self, key)", "line_sheets(self)", "lines_from(self, place)", "lines_to(self, place)",
        "has_line(self, key)", "with_asking(self, asking)", "without(self, name)", "with_given(self, standing, many)",
        "of_owners(self, owners)", "__eq__(self, other)", "__len__(self)", "__repr__(self)",
    ],
    "weeks.Week": [
        "__init__(self, land, askings=(), *, given=())", "askings(self)", "asking(self, name)", "given(self)",
        "given_at(self, standing)", "ask(self, asking)", "withdraw(self, name)", "change(self, name, crews, price)",
        "give(self, standing, many)", "as_web(self, since=0)", "text(self)", "read(text)", "__contains__(self, name)",
        "twin(self)", "__eq__(self, other)", "__len__(self)", "__repr__(self)",
    ],
    "plans.Plan": [
        "__init__(self, web, amounts)", "amounts(self)", "amount(self, key)", "rest_steps(self)", "__eq__(self, other)",
        "__len__(self)", "__repr__(self)",
    ],
    "kept.Kept": [
        "__init__(self, land, *, given=())", "put(self, asking)", "take_off(self, name)", "give(self, standing, many)",
        "as_web(self)", "plan(self)", "row(self, habit='least')", "twin(self)", "__len__(self)", "__repr__(self)",
    ],
    "rotas.Rota": [
        "__init__(self, lines, *, first=(), last=())", "lines(self)", "__eq__(self, other)", "__len__(self)",
        "__repr__(self)",
    ],
    "books.Books": [
        "__init__(self)", "next_day(self)", "post(self, key, done, entries)", "take_back(self, number)",
        "square(self, rows)", "record(self, number)", "in_force(self, key)", "keys_in_force(self)",
        "balance(self, account, *, done=None, known=None)", "trial(self, *, done=None, known=None)",
        "statement(self, account, *, done=None, known=None)", "twin(self)", "__len__(self)", "__repr__(self)",
    ],
    "ties.Ties": [
        "__init__(self, standings, top, ties=())", "standings(self)", "ties(self)", "broken_tie(self, row)",
        "keeps(self, row)", "broken_ring(self)", "least_kept(self)", "greatest_kept(self)", "__len__(self)",
        "__repr__(self)",
    ],
    "lending.Lending": [
        "__init__(self)", "lend(self, lender, borrower, standing, crews)", "give_back(self, number)",
        "lay(self, camp, money)", "loans(self)", "camps(self)", "deposit(self, camp)", "position(self, camp)",
        "need(self, camp, ties)", "gross_need(self, camp, ties)", "netted(self)", "called_in(self, camp, row)",
        "twin(self)", "__len__(self)", "__repr__(self)",
    ],
    "led.Led": [
        "__init__(self, week, *, habit='least')", "go(self)", "ask(self, asking)", "withdraw(self, name)",
        "change(self, name, crews, price)", "give(self, standing, many)", "known(self)", "rest(self)", "plan(self)",
        "row(self)", "lost(self)", "books(self)", "twin(self)", "__repr__(self)",
    ],
    "house.House": [
        "__init__(self, land)", "choose(self, habit)", "do(self, *deeds)", "undo(self)", "redo(self)", "history(self)",
        "tried(self, *deeds)", "square(self)", "next_day(self)", "week(self)", "books(self)", "plan(self)", "row(self)",
        "say(self, line)", "__call__(self, line)", "log(self)", "journal(self)", "twin(self)", "__eq__(self, other)",
        "__len__(self)", "__repr__(self)",
    ],
}
PROPERTIES = {
    "plans.Plan": ["gain", "begun"], "kept.Kept": ["gain", "many"], "books.Books": ["day"],
    "led.Led": ["hour", "ended", "gain"], "house.House": ["many", "day", "busy", "habit"],
}
VALUES = {"lands.Land": {"YARDS": 6}, "weeks.Week": {"MOST": 24}, "house.House": {"FIRST": "least"}}
ORDER = [
    "errors", "words", "worths", "lands", "askings", "webs", "weeks", "weektexts", "plans", "best", "fitting", "gaps",
    "settled", "ranges", "more", "kept", "rotas", "wishes", "dues", "books", "postings", "ties",
    "cover", "lending", "led", "papers", "house",
]


def module_of(name):
    return importlib.import_module(f"standworth.{name}")


def class_of(path):
    module, name = path.split(".")
    return getattr(module_of(module), name)


class InterfaceTest(unittest.TestCase):
    def test_functions(self):
        for module, signatures in FUNCTIONS.items():
            for signature in signatures:
                name = signature.split("(")[0]
                function = getattr(module_of(module), name)
                self.assertEqual(f"{name}{inspect.signature(function)}", signature)
                self.assertEqual(function.__module__, f"standworth.{module}")

    def test_classes(self):
        for path, signatures in CLASSES.items():
            made = class_of(path)
            self.assertEqual(f"{made.__module__}.{made.__name__}", f"standworth.{path}")
            for signature in signatures:
                name = signature.split("(")[0]
                self.assertIn(name, vars(made), path)
                found = str(inspect.signature(getattr(made, name)))
                self.assertEqual(f"{path}.{name}{found}", f"{path}.{signature}")

    def test_properties(self):
        for path, names in PROPERTIES.items():
            for name in names:
                self.assertIsInstance(vars(class_of(path))[name], property)

    def test_class_values(self):
        for path, values in VALUES.items():
            for name, value in values.items():
                self.assertEqual(vars(class_of(path))[name], value)

    def test_what_can_be_assigned(self):
        for path, names in PROPERTIES.items():
            for name in names:
                can_be = vars(class_of(path))[name].fset is not None
                self.assertEqual(can_be, (path, name) == ("house.House", "habit"))

    def test_kinds_of_methods_and_classes(self):
        self.assertIsInstance(vars(class_of("weeks.Week"))["read"], staticmethod)
        self.assertIsInstance(vars(class_of("house.House"))["played"], classmethod)
        played = inspect.signature(class_of("house.House").played)
        self.assertEqual(str(played), "(land, journal)")
        asking = class_of("askings.Asking")
        self.assertEqual(class_of("askings.Work").__bases__, (asking,))
        self.assertEqual(class_of("askings.Hire").__bases__, (asking,))

    def test_the_order_of_modules(self):
        """Each listed module needs only those above it, and modules that are not listed."""
        for at, name in enumerate(ORDER):
            needed = self.all_needed(name)
            self.assertEqual([other for other in ORDER[at + 1:] if other in needed], [])

    def test_generators(self):
        """What the document calls a generator is one, and nothing else is."""
        for module, signatures in FUNCTIONS.items():
            for signature in signatures:
                name = signature.split("(")[0]
                found = inspect.isgeneratorfunction(getattr(module_of(module), name))
                self.assertEqual(found, f"{module}.{name}" in GENERATORS, name)
        for path, signatures in CLASSES.items():
            for signature in signatures:
                name = signature.split("(")[0]
                found = inspect.isgeneratorfunction(getattr(class_of(path), name))
                self.assertEqual(found, f"{path}.{name}" in GENERATORS, name)

    def all_needed(self, name):
        needed, open_names = set(), [name]
        while open_names:
            for line in inspect.getsource(module_of(open_names.pop())).split("\n"):
                if line.startswith("from standworth."):
                    other = line.split(" ")[1].split(".")[1]
                    if other not in needed:
                        needed.add(other)
                        open_names.append(other)
        return needed


if __name__ == "__main__":
    unittest.main()
