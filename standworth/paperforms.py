"""The lines of a paper behind the text of its week: their forms, and reading them one by one."""

from standworth.weekforms import number_within
from standworth.words import is_key, is_standing, number_in

MOST_AMOUNT = 999999
MOST_WORTH = 999
PARTS = {"amount": 0, "worth": 1, "done": 2}
DONE = 2


def with_hour(words):
    """The tuple of some words, in which the last one is a number if it writes one."""
    hour = number_in(words[-1])
    return tuple(words) if hour is None else (*words[:-1], hour)


def amount_form(words):
    """The pair of the key and the amount that the words of a line amount tell, or None."""
    if len(words) < 3:
        return None
    key, amount = with_hour(words[2:]), number_within(words[1], 1, MOST_AMOUNT)
    return (key, amount) if is_key(key) and amount is not None else None


def worth_form(words):
    """The pair of the standing and the worth that the words of a line worth tell, or None."""
    if len(words) != 4:
        return None
    standing, worth = with_hour(words[1:3]), number_within(words[3], 0, MOST_WORTH)
    return (standing, worth) if is_standing(standing) and worth is not None else None


def paper_line_form(line):
    """The triple of the first word of a line, what it is about, and its number; None if the line has no form."""
    words = line.split(" ")
    if line == "done":
        return (line, (), 0)
    pair = None
    if words[0] == "amount":
        pair = amount_form(words)
    elif words[0] == "worth":
        pair = worth_form(words)
    return None if pair is None else (words[0], *pair)


class PaperReader:
    """What the lines so far of a paper have told, behind the text of the week with a web."""

    def __init__(self, web):
        self._web = web
        self._part = 0
        self._amounts = {}
        self._worths = {}

    def take(self, line):
        """Take the next line in; the word that tells why it cannot stand, or None if it can."""
        form = paper_line_form(line)
        if form is None or self._part == DONE or PARTS[form[0]] < self._part:
            return "form"
        word, about, number = form
        self._part = PARTS[word]
        if word == "amount":
            return self._enter(self._amounts, about, number, self._web.has_line(about))
        if word == "worth":
            return self._enter(self._worths, about, number, self._web.land.has(about))
        return None

    def is_ended(self):
        """Whether the line done has been taken in."""
        return self._part == DONE

    def told(self):
        """The dicts of keys to amounts and of standings to worths that the lines have told."""
        amounts = {key: self._amounts[key] for key in self._amounts}
        return (amounts, {standing: self._worths[standing] for standing in self._worths})

    def _enter(self, numbers, about, number, is_known):
        if len(numbers) > 0 and about <= max(list(numbers)):
            return "order"
        if not is_known:
            return "unknown"
        numbers[about] = number
        return None
