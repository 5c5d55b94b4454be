"""The answers of a house to lines of words."""

from standworth.dues import demand_owner, dues
from standworth.errors import Missing, NothingLeft, StandError, UnknownStanding
from standworth.fitting import ends
from standworth.ranges import amount_range, fate
from standworth.weekforms import number_within
from standworth.words import LAST_HOUR, is_name, number_in, number_text

# What stands behind the first word of each line that is known.
FORMS = {
    "gain": (),
    "many": (),
    "day": (),
    "habit": (),
    "crews": (),
    "amount": ("name",),
    "range": ("name",),
    "fate": ("name",),
    "worth": ("name", "hour"),
    "ends": ("name", "hour"),
    "due": ("name",),
    "balance": ("name",),
    "withdraw": ("name",),
    "give": ("name", "hour", "many"),
    "undo": (),
    "redo": (),
    "square": (),
    "next": (),
}


def signed_in(word):
    """The number that a word writes, perhaps with the sign - ahead if it is below 0, or None."""
    if not word.startswith("-"):
        return number_in(word)
    number = number_in(word[1:])
    return None if number is None or number == 0 else -number


def value_in(word, field):
    """The value that a word tells where a field is asked for, or None."""
    if field == "name":
        return word if is_name(word) else None
    return number_within(word, 0, LAST_HOUR) if field == "hour" else signed_in(word)


def values_in(words):
    """The list of the values that the words of a line tell behind the first one, or None if the line is not known."""
    fields = FORMS.get(words[0])
    if fields is None or len(fields) != len(words) - 1:
        return None
    values = [value_in(word, field) for word, field in zip(words[1:], fields)]
    return None if None in values else values


def pair_text(pair):
    """Two numbers with a space between."""
    return f"{number_text(pair[0])} {number_text(pair[1])}"


def told_of_house(house, word):
    """The answer to a word that stands alone and changes nothing."""
    if word == "gain":
        return number_text(house.plan().gain)
    if word == "many":
        return number_text(house.many)
    if word == "day":
        return number_text(house.day)
    return house.habit if word == "habit" else number_text(house.plan().begun)


def told_of_asking(house, word, name):
    """The answer to a word about the line of an asking."""
    web = house.week().as_web()
    key = web.asking(name).key
    if word == "amount":
        return number_text(house.plan().amount(key))
    return pair_text(amount_range(web, key)) if word == "range" else fate(web, key)


def told_of_standing(house, word, standing):
    """The answer to a word about the worth of a standing."""
    if word == "worth":
        return number_text(house.row().worth(standing))
    told = ends(house.week().as_web())
    if standing not in told:
        raise UnknownStanding(standing)
    return pair_text(told[standing])


def told_of_owner(house, word, owner):
    """The answer to a word about an owner."""
    if word == "balance":
        return number_text(house.books().balance(owner))
    plan = house.plan()
    demand_owner(plan.web, owner)
    return number_text(dues(plan, house.row())[owner])


def done_in_house(house, word, values):
    """Do what a word asks for; the answer is always the same."""
    if word == "withdraw":
        house.do(("withdraw", values[0]))
    elif word == "give":
        house.do(("give", (values[0], values[1]), values[2]))
    elif word == "undo":
        house.undo()
    elif word == "redo":
        house.redo()
    elif word == "square":
        house.square()
    else:
        house.next_day()
    return "done"


def told_by(house, word, values):
    """The answer to a word and its values; it raises the errors of what it asks for."""
    if word in ("gain", "many", "day", "habit", "crews"):
        return told_of_house(house, word)
    if word in ("amount", "range", "fate"):
        return told_of_asking(house, word, values[0])
    if word in ("worth", "ends"):
        return told_of_standing(house, word, (values[0], values[1]))
    if word in ("due", "balance"):
        return told_of_owner(house, word, values[0])
    return done_in_house(house, word, values)


def answer(house, line):
    """The answer of a house to a line."""
    words = line.split(" ")
    values = values_in(words)
    if values is None:
        return "unknown"
    try:
        return told_by(house, words[0], values)
    except (StandError, Missing, NothingLeft) as wrong:
        return f"error {wrong.code}"
