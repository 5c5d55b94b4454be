"""Papers, which say that a plan of a week is best by a row: writing them, and judging them."""

from standworth.errors import InvalidText, OverRoom, Unbalanced
from standworth.fitting import misfit
from standworth.paperforms import PaperReader
from standworth.planrows import demand_row
from standworth.plans import Plan
from standworth.weekforms import written_week
from standworth.weekreading import lines_taken
from standworth.weektexts import read_head
from standworth.words import number_text
from standworth.worths import Worths


def words_of(items):
    """The names and hours of a key or of a standing with spaces between."""
    return " ".join([str(item) for item in items])


def paper_text(plan, row):
    """The text of the paper that says that a plan is best, by a row."""
    web = plan.web
    demand_row(web, row)
    amounts = plan.amounts()
    lines = [f"amount {number_text(amounts[key])} {words_of(key)}\n" for key in amounts]
    lines.extend([f"worth {words_of(place)} {number_text(row.worth(place))}\n" for place in web.standings()])
    return "".join([written_week(web.land, web.askings(), web.given()), *lines, "done\n"])


def read_paper(text):
    """The web, the amounts and the worths that any value tells as a paper."""
    week, lines = read_head(text)
    web = week.as_web()
    reader = PaperReader(web)
    lines_taken(reader, text, lines, True)
    amounts, worths = reader.told()
    return (web, amounts, worths)


def look(text):
    """What any value is found to be as a paper: a tuple whose first item is a word."""
    try:
        web, amounts, worths = read_paper(text)
    except InvalidText as wrong:
        return ("text", wrong.line, wrong.why)
    try:
        plan = Plan(web, amounts)
    except OverRoom as crowded:
        return ("room", crowded.key)
    except Unbalanced as uneven:
        return ("balance", uneven.standing)
    return judged(plan, worths)


def judged(plan, worths):
    """What a paper is found to be whose plan stands."""
    for standing in plan.web.standings():
        if standing not in worths:
            return ("worth", standing)
    key = misfit(plan, Worths(worths))
    return ("best", plan.gain) if key is None else ("misfit", key)
