"""The words that values are made of: names, numbers, standings, keys and accounts."""

HABITS = ("least", "greatest", "middle")
LETTERS = "abcdefghijklmnopqrstuvwxyz"
DIGITS = "0123456789"
LAST_HOUR = 8
# Python writes no number of many thousand digits at once, so that longer ones than this are written in parts.
PART = 1000000000000000000
PART_DIGITS = 18


def is_name(value):
    """Whether any value is a name: 1 to 6 lowercase letters."""
    if not isinstance(value, str) or not 1 <= len(value) <= 6:
        return False
    return all([letter in LETTERS for letter in value])


def is_whole(value):
    """Whether any value is a number of whatever size; True and False are none."""
    return isinstance(value, int) and not isinstance(value, bool)


def is_number(value, least, most):
    """Whether any value is a number from least to most."""
    return is_whole(value) and least <= value <= most


def is_standing(value):
    """Whether any value is a pair of a name and an hour."""
    if not isinstance(value, tuple) or len(value) != 2:
        return False
    return is_name(value[0]) and is_number(value[1], 0, LAST_HOUR)


def is_place(value):
    """Whether any value is home or a standing."""
    return isinstance(value, tuple) and (len(value) == 0 or is_standing(value))


def is_key(value):
    """Whether any value has one of the six forms of keys of lines."""
    if not isinstance(value, tuple) or len(value) < 2 or not isinstance(value[0], str):
        return False
    if value[0] in ("hire", "work"):
        return len(value) == 2 and is_name(value[1])
    if value[0] in ("buy", "free", "wait"):
        return is_standing(value[1:])
    return value[0] == "walk" and is_name(value[1]) and is_standing(value[2:]) and value[1] != value[2]


def number_in(text):
    """The number that a string of at most 9 digits writes without a sign, or None."""
    if not isinstance(text, str) or not 1 <= len(text) <= 9:
        return None
    if not all([digit in DIGITS for digit in text]):
        return None
    if len(text) > 1 and text[0] == "0":
        return None
    return int(text)


def number_text(number):
    """The digits of a number of any size, with the sign - ahead if it is below 0."""
    rest = abs(number)
    parts = []
    while rest >= PART:
        parts.append(str(rest % PART).zfill(PART_DIGITS))
        rest = rest // PART
    parts.append(str(rest))
    sign = "-" if number < 0 else ""
    return sign + "".join(reversed(parts))


def is_account(value):
    """Whether any value is the account of an owner, of the town or of a standing."""
    if not isinstance(value, str):
        return False
    words = value.split(" ")
    if len(words) == 1:
        return value == "" or is_name(value)
    return len(words) == 2 and is_standing((words[0], number_in(words[1])))


def account_of(standing):
    """The account of a standing."""
    return f"{standing[0]} {standing[1]}"
