"""The errors of the package; each one is raised, and can be caught, by its name."""


class StandError(ValueError):
    """Something is not as it must be."""


class InvalidName(StandError):
    """A value is no name, or no habit, where one is asked."""

    def __init__(self, value):
        super().__init__(f"{value!r} is no such name")
        self.code = "InvalidName"
        self.value = value


class InvalidNumber(StandError):
    """A value is no number, or none within its bounds."""

    def __init__(self, value):
        super().__init__(f"{value!r} is no such number")
        self.code = "InvalidNumber"
        self.value = value


class InvalidStanding(StandError):
    """A value is no standing, or no place, where one is asked."""

    def __init__(self, value):
        super().__init__(f"{value!r} is no such standing")
        self.code = "InvalidStanding"
        self.value = value


class InvalidKey(StandError):
    """A value is no key of a line."""

    def __init__(self, value):
        super().__init__(f"{value!r} is no key")
        self.code = "InvalidKey"
        self.value = value


class InvalidYard(StandError):
    """The item at this index is no yard; -1 stands for the whole list."""

    def __init__(self, at):
        super().__init__(f"no yard at {at!r}")
        self.code = "InvalidYard"
        self.at = at


class InvalidRoad(StandError):
    """The item at this index is no road; -1 stands for the whole list."""

    def __init__(self, at):
        super().__init__(f"no road at {at!r}")
        self.code = "InvalidRoad"
        self.at = at


class InvalidAsking(StandError):
    """The item at this index is no asking; -1 stands for the whole list."""

    def __init__(self, at):
        super().__init__(f"no asking at {at!r}")
        self.code = "InvalidAsking"
        self.at = at


class InvalidGiven(StandError):
    """The item at this index tells no given crews; -1 stands for the whole list."""

    def __init__(self, at):
        super().__init__(f"no given crews at {at!r}")
        self.code = "InvalidGiven"
        self.at = at


class InvalidWorths(StandError):
    """A value is no row of worths, or no dict of worths."""

    def __init__(self):
        super().__init__("these are no worths")
        self.code = "InvalidWorths"


class InvalidAmounts(StandError):
    """A value is no dict of amounts of lines."""

    def __init__(self):
        super().__init__("these are no amounts")
        self.code = "InvalidAmounts"


class InvalidSteps(StandError):
    """A value is no list of steps, or no ring."""

    def __init__(self):
        super().__init__("these are no such steps")
        self.code = "InvalidSteps"


class InvalidSeconds(StandError):
    """A value is no dict of second fees."""

    def __init__(self):
        super().__init__("these are no second fees")
        self.code = "InvalidSeconds"


class InvalidRota(StandError):
    """The item at this index is wrong for a rota; -1 stands for the whole list."""

    def __init__(self, at):
        super().__init__(f"no rota at {at!r}")
        self.code = "InvalidRota"
        self.at = at


class InvalidEntry(StandError):
    """The item at this index is no entry; -1 stands for the whole list."""

    def __init__(self, at):
        super().__init__(f"no entry at {at!r}")
        self.code = "InvalidEntry"
        self.at = at


class InvalidTie(StandError):
    """The item at this index is no tie; -1 stands for the whole list."""

    def __init__(self, at):
        super().__init__(f"no tie at {at!r}")
        self.code = "InvalidTie"
        self.at = at


class InvalidOwed(StandError):
    """A value is no dict of owed crews."""

    def __init__(self):
        super().__init__("these are no owed crews")
        self.code = "InvalidOwed"


class InvalidFlow(StandError):
    """A value is no dict of amounts of ties."""

    def __init__(self):
        super().__init__("this is no flow")
        self.code = "InvalidFlow"


class InvalidDeed(StandError):
    """The value at this index is no deed; -1 stands for the whole list."""

    def __init__(self, at):
        super().__init__(f"no deed at {at!r}")
        self.code = "InvalidDeed"
        self.at = at


class InvalidText(StandError):
    """This line of a text cannot stand there, for the reason why."""

    def __init__(self, line, why):
        super().__init__(f"line {line!r} cannot stand: {why!s}")
        self.code = "InvalidText"
        self.line = line
        self.why = why


class DuplicateName(StandError):
    """Two askings have this name."""

    def __init__(self, name):
        super().__init__(f"{name!r} stands there already")
        self.code = "DuplicateName"
        self.name = name


class TooMany(StandError):
    """There are more than the most that may be."""

    def __init__(self, most):
        super().__init__(f"more than {most!r}")
        self.code = "TooMany"
        self.most = most


class AboveTop(StandError):
    """The hire with this name has a price above the top."""

    def __init__(self, name):
        super().__init__(f"the price of {name!r} is above the top")
        self.code = "AboveTop"
        self.name = name


class OtherStandings(StandError):
    """A row has other standings than it should have."""

    def __init__(self):
        super().__init__("the standings differ")
        self.code = "OtherStandings"


class OverRoom(StandError):
    """The amount of this line is above its room, or would be below 0."""

    def __init__(self, key):
        super().__init__(f"no room on {key!r}")
        self.code = "OverRoom"
        self.key = key


class Unbalanced(StandError):
    """At this standing crews appear or vanish."""

    def __init__(self, standing):
        super().__init__(f"the crews at {standing!r} do not add up")
        self.code = "Unbalanced"
        self.standing = standing


class NotBest(StandError):
    """A plan is not best, as this ring shows."""

    def __init__(self, ring):
        super().__init__(f"a ring gains: {ring!r}")
        self.code = "NotBest"
        self.ring = ring


class NotFitting(StandError):
    """A row does not fit a plan, as this line shows."""

    def __init__(self, key):
        super().__init__(f"{key!r} is a misfit")
        self.code = "NotFitting"
        self.key = key


class NotReached(StandError):
    """A wanted gap lies outside of these bounds."""

    def __init__(self, least, greatest):
        super().__init__(f"only from {least!r} to {greatest!r}")
        self.code = "NotReached"
        self.least = least
        self.greatest = greatest


class NoRow(StandError):
    """No row keeps the ties, as this broken ring shows."""

    def __init__(self, ring):
        super().__init__(f"a ring is broken: {ring!r}")
        self.code = "NoRow"
        self.ring = ring


class NotFlow(StandError):
    """At this standing amounts do not make a flow."""

    def __init__(self, standing):
        super().__init__(f"no flow at {standing!r}")
        self.code = "NotFlow"
        self.standing = standing


class Uneven(StandError):
    """Entries add up to this, and not to 0."""

    def __init__(self, total):
        super().__init__(f"the entries add up to {total!r}")
        self.code = "Uneven"
        self.total = total


class Occupied(StandError):
    """A transaction is in force for this key."""

    def __init__(self, key):
        super().__init__(f"{key!r} has a transaction in force")
        self.code = "Occupied"
        self.key = key


class NotReversible(StandError):
    """The transaction with this number cannot be reversed."""

    def __init__(self, number):
        super().__init__(f"{number!r} cannot be reversed")
        self.code = "NotReversible"
        self.number = number


class Over(StandError):
    """It is about an hour that is over."""

    def __init__(self, at):
        super().__init__(f"{at!r} is over")
        self.code = "Over"
        self.at = at


class Missing(LookupError):
    """Something that was named is not there."""


class UnknownName(Missing):
    """Nothing there has this name."""

    def __init__(self, name):
        super().__init__(f"nothing is called {name!r}")
        self.code = "UnknownName"
        self.name = name


class UnknownStanding(Missing):
    """There is no such standing, or no such place."""

    def __init__(self, standing):
        super().__init__(f"{standing!r} is not there")
        self.code = "UnknownStanding"
        self.standing = standing


class UnknownLine(Missing):
    """There is no line with this key."""

    def __init__(self, key):
        super().__init__(f"no line has the key {key!r}")
        self.code = "UnknownLine"
        self.key = key


class UnknownNumber(Missing):
    """Nothing there has this number."""

    def __init__(self, number):
        super().__init__(f"nothing has the number {number!r}")
        self.code = "UnknownNumber"
        self.number = number


class NothingLeft(IndexError):
    """There is no step left to undo or redo."""

    def __init__(self):
        super().__init__("nothing is left")
        self.code = "NothingLeft"
