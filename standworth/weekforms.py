"""The forms of the lines of the text of a week, with the values that they tell."""

from standworth.words import is_name, number_in

# A field asks for a name, for beds, for a number with or without a sign, or for one within two bounds.
FORMS = {
    "week": ((0, 8), (1, 999)),
    "yard": ("name", (0, 999), "beds"),
    "road": ("name", "name", (1, 8), (0, 999)),
    "work": ("name", "name", (0, 99), "name", (0, 8), "name", (0, 8), (1, 99), (0, 999)),
    "hire": ("name", "name", (0, 99), "name", (0, 8), (1, 99), (0, 999)),
    "given": ("name", (0, 8), "signed"),
    "end": (),
}


def number_within(word, least, most):
    """The number that a word writes without a sign, or None if it is not from least to most."""
    number = number_in(word)
    if number is None or not least <= number <= most:
        return None
    return number


def signed_number(word):
    """The number of given crews, other than 0, that a word writes, perhaps with the sign - ahead, or None."""
    if not word.startswith("-"):
        return number_within(word, 1, 99)
    number = number_within(word[1:], 1, 99)
    return None if number is None else -number


def is_told(word, field):
    """Whether a word is what a field asks for."""
    if field == "name":
        return is_name(word)
    if field == "signed":
        return signed_number(word) is not None
    if field == "beds":
        return word == "-" or number_within(word, 1, 99) is not None
    return number_within(word, field[0], field[1]) is not None


def told_value(word, field):
    """The value of a word that is what a field asks for."""
    if field == "name":
        return word
    if field == "signed":
        return signed_number(word)
    return number_in(word)


def is_lasting(kind, values):
    """Whether a road leads to another yard, and a work to a later hour."""
    if kind == "road":
        return values[0] != values[1]
    return kind != "work" or values[4] < values[6]


def line_form(line):
    """The pair of the first word of a line and the list of its values, None if it has no form."""
    words = line.split(" ")
    kind = words[0]
    if kind not in FORMS or len(words) != len(FORMS[kind]) + 1:
        return None
    pairs = list(zip(words[1:], FORMS[kind]))
    if not all([is_told(word, field) for word, field in pairs]):
        return None
    values = [told_value(word, field) for word, field in pairs]
    return (kind, values) if is_lasting(kind, values) else None


def written_week(land, askings, given):
    """The text of a week, from its askings in the order of ranks and its ascending given crews."""
    lines = [f"week {land.last} {land.top}\n"]
    for name, fee, beds in land.yards():
        room = "-" if beds is None else beds
        lines.append(f"yard {name} {fee} {room}\n")
    for yard, other, hours, fee in land.roads():
        lines.append(f"road {yard} {other} {hours} {fee}\n")
    lines.extend([asking.text() for asking in askings])
    for standing, many in given:
        lines.append(f"given {standing[0]} {standing[1]} {many}\n")
    lines.append("end\n")
    return "".join(lines)
