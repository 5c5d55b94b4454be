"""The errors of the package; each one is raised, and can be caught, by its name."""

# No message tells the values, as Python writes no number of many thousand digits.

from standworth.copies import copied


class StandError(ValueError):
    """Something is not as it must be."""


class InvalidName(StandError):
    """A value is no name, or no habit, where one is asked."""

    def __init__(self, value):
        super().__init__("this is no such name")
        self.code = "InvalidName"
        self.value = copied(value)


class InvalidNumber(StandError):
    """A value is no number, or none within its bounds."""

    def __init__(self, value):
        super().__init__("this is no such number")
        self.code = "InvalidNumber"
        self.value = copied(value)


class InvalidStanding(StandError):
    """A value is no standing, or no place, where one is asked."""

    def __init__(self, value):
        super().__init__("this is no such standing")
        self.code = "InvalidStanding"
        self.value = copied(value)


class InvalidKey(StandError):
    """A value is no key of a line."""

    def __init__(self, value):
        super().__init__("this is no key")
        self.code = "InvalidKey"
        self.value = copied(value)


class InvalidYard(StandError):
    """The item at this index is no yard; -1 stands for the whole list."""

    def __init__(self, at):
        super().__init__("no yard stands there")
        self.code = "InvalidYard"
        self.at = copied(at)


class InvalidRoad(StandError):
    """The item at this index is no road; -1 stands for the whole list."""

    def __init__(self, at):
        super().__init__("no road stands there")
        self.code = "InvalidRoad"
        self.at = copied(at)


class InvalidAsking(StandError):
    """The item at this index is no asking; -1 stands for the whole list."""

    def __init__(self, at):
        super().__init__("no asking stands there")
        self.code = "InvalidAsking"
        self.at = copied(at)


class InvalidGiven(StandError):
    """The item at this index tells no given crews; -1 stands for the whole list."""

    def __init__(self, at):
        super().__init__("no given crews stand there")
        self.code = "InvalidGiven"
        self.at = copied(at)


class InvalidWorths(StandError):
    """A value is no row of worths, or no dict of worths."""

    def __init__(self):
        super().__init__("these are no worths")
        self.code = "InvalidWorths"


class InvalidAmounts(StandError):
    """A value is no dict of amounts of lines."""

    def __init__(self):
        super().__init__("these are no amounts")
        self.code = "InvalidAmounts"


class InvalidSteps(StandError):
    """A value is no list of steps, or no ring."""

    def __init__(self):
        super().__init__("these are no such steps")
        self.code = "InvalidSteps"


class InvalidSeconds(StandError):
    """A value is no dict of second fees."""

    def __init__(self):
        super().__init__("these are no second fees")
        self.code = "InvalidSeconds"


class InvalidRota(StandError):
    """The item at this index is wrong for a rota; -1 stands for the whole list."""

    def __init__(self, at):
        super().__init__("no rota stands there")
        self.code = "InvalidRota"
        self.at = copied(at)


class InvalidEntry(StandError):
    """The item at this index is no entry; -1 stands for the whole list."""

    def __init__(self, at):
        super().__init__("no entry stands there")
        self.code = "InvalidEntry"
        self.at = copied(at)


class InvalidTie(StandError):
    """The item at this index is no tie; -1 stands for the whole list."""

    def __init__(self, at):
        super().__init__("no tie stands there")
        self.code = "InvalidTie"
        self.at = copied(at)


class InvalidOwed(StandError):
    """A value is no dict of owed crews."""

    def __init__(self):
        super().__init__("these are no owed crews")
        self.code = "InvalidOwed"


class InvalidFlow(StandError):
    """A value is no dict of amounts of ties."""

    def __init__(self):
        super().__init__("this is no flow")
        self.code = "InvalidFlow"


class InvalidDeed(StandError):
    """The value at this index is no deed; -1 stands for the whole list."""

    def __init__(self, at):
        super().__init__("no deed stands there")
        self.code = "InvalidDeed"
        self.at = copied(at)


class InvalidText(StandError):
    """This line of a text cannot stand there, for the reason why."""

    def __init__(self, line, why):
        super().__init__("a line cannot stand there")
        self.code = "InvalidText"
        self.line = copied(line)
        self.why = copied(why)


class DuplicateName(StandError):
    """Two askings have this name."""

    def __init__(self, name):
        super().__init__("this name stands there already")
        self.code = "DuplicateName"
        self.name = copied(name)


class TooMany(StandError):
    """There are more than the most that may be."""

    def __init__(self, most):
        super().__init__("there are too many")
        self.code = "TooMany"
        self.most = copied(most)


class AboveTop(StandError):
    """The hire with this name has a price above the top."""

    def __init__(self, name):
        super().__init__("this price is above the top")
        self.code = "AboveTop"
        self.name = copied(name)


class OtherStandings(StandError):
    """A row has other standings than it should have."""

    def __init__(self):
        super().__init__("the standings differ")
        self.code = "OtherStandings"


class OverRoom(StandError):
    """The amount of this line is above its room, or would be below 0."""

    def __init__(self, key):
        super().__init__("this line has no room")
        self.code = "OverRoom"
        self.key = copied(key)


class Unbalanced(StandError):
    """At this standing crews appear or vanish."""

    def __init__(self, standing):
        super().__init__("the crews there do not add up")
        self.code = "Unbalanced"
        self.standing = copied(standing)


class NotBest(StandError):
    """A plan is not best, as this ring shows."""

    def __init__(self, ring):
        super().__init__("a ring gains")
        self.code = "NotBest"
        self.ring = copied(ring)


class NotFitting(StandError):
    """A row does not fit a plan, as this line shows."""

    def __init__(self, key):
        super().__init__("this line is a misfit")
        self.code = "NotFitting"
        self.key = copied(key)


class NotReached(StandError):
    """A wanted gap lies outside of these bounds."""

    def __init__(self, least, greatest):
        super().__init__("it lies outside of the bounds")
        self.code = "NotReached"
        self.least = copied(least)
        self.greatest = copied(greatest)


class NoRow(StandError):
    """No row keeps the ties, as this broken ring shows."""

    def __init__(self, ring):
        super().__init__("a ring is broken")
        self.code = "NoRow"
        self.ring = copied(ring)


class NotFlow(StandError):
    """At this standing amounts do not make a flow."""

    def __init__(self, standing):
        super().__init__("this is no flow there")
        self.code = "NotFlow"
        self.standing = copied(standing)


class Uneven(StandError):
    """Entries add up to this, and not to 0."""

    def __init__(self, total):
        super().__init__("the entries do not add up to 0")
        self.code = "Uneven"
        self.total = copied(total)


class Occupied(StandError):
    """A transaction is in force for this key."""

    def __init__(self, key):
        super().__init__("a transaction is in force")
        self.code = "Occupied"
        self.key = copied(key)


class NotReversible(StandError):
    """The transaction with this number cannot be reversed."""

    def __init__(self, number):
        super().__init__("this cannot be reversed")
        self.code = "NotReversible"
        self.number = copied(number)


class Over(StandError):
    """It is about an hour that is over."""

    def __init__(self, at):
        super().__init__("this is over")
        self.code = "Over"
        self.at = copied(at)


class Missing(LookupError):
    """Something that was named is not there."""


class UnknownName(Missing):
    """Nothing there has this name."""

    def __init__(self, name):
        super().__init__("nothing is called so")
        self.code = "UnknownName"
        self.name = copied(name)


class UnknownStanding(Missing):
    """There is no such standing, or no such place."""

    def __init__(self, standing):
        super().__init__("this is not there")
        self.code = "UnknownStanding"
        self.standing = copied(standing)


class UnknownLine(Missing):
    """There is no line with this key."""

    def __init__(self, key):
        super().__init__("no line has this key")
        self.code = "UnknownLine"
        self.key = copied(key)


class UnknownNumber(Missing):
    """Nothing there has this number."""

    def __init__(self, number):
        super().__init__("nothing has this number")
        self.code = "UnknownNumber"
        self.number = copied(number)


class NothingLeft(IndexError):
    """There is no step left to undo or redo."""

    def __init__(self):
        super().__init__("nothing is left")
        self.code = "NothingLeft"
