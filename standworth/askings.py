"""Askings: works that customers want done, and hires that let crews begin."""

from standworth.errors import InvalidName, InvalidNumber, InvalidStanding
from standworth.words import is_name, is_number, is_standing


def check_names(name, owner):
    """Refuse values that are no names of an asking and its owner."""
    for value in (name, owner):
        if not is_name(value):
            raise InvalidName(value)


def check_terms(crews, price):
    """Refuse values that are no numbers of crews and no price."""
    if not is_number(crews, 1, 99):
        raise InvalidNumber(crews)
    if not is_number(price, 0, 999):
        raise InvalidNumber(price)


def check_rank(rank):
    """Refuse a value that is no rank."""
    if not is_number(rank, 0, 99):
        raise InvalidNumber(rank)


class Asking:
    """What works and hires have in common; callers make no objects of it."""

    def __init__(self, name, owner, crews, price, rank):
        self.name = name
        self.owner = owner
        self.crews = crews
        self.price = price
        self.rank = rank


class Work(Asking):
    """An asking to lead crews from its start to its later end; it never changes."""

    def __init__(self, name, owner, start, end, crews, price, *, rank=0):
        check_names(name, owner)
        if not is_standing(start):
            raise InvalidStanding(start)
        if not is_standing(end) or end[1] <= start[1]:
            raise InvalidStanding(end)
        check_terms(crews, price)
        check_rank(rank)
        Asking.__init__(self, name, owner, crews, price, rank)
        self.start = start
        self.end = end
        self.key = ("work", name)
        self.fee = -price
        self.begins = start[1]

    def with_terms(self, crews, price):
        """The same work with another number of crews and another price."""
        return Work(self.name, self.owner, self.start, self.end, crews, price, rank=self.rank)

    def text(self):
        """Its line in the text of a week."""
        places = f"{self.start[0]} {self.start[1]} {self.end[0]} {self.end[1]}"
        return f"work {self.name} {self.owner} {self.rank} {places} {self.crews} {self.price}\n"

    def __eq__(self, other):
        if not isinstance(other, Work) or self.name != other.name or self.owner != other.owner:
            return False
        if self.start != other.start or self.end != other.end:
            return False
        return self.crews == other.crews and self.price == other.price and self.rank == other.rank

    def __repr__(self):
        return f"Work({self.name}, {self.crews} crews at {self.price})"


class Hire(Asking):
    """An asking to let crews begin at its end; it never changes."""

    def __init__(self, name, owner, end, crews, price, *, rank=0):
        check_names(name, owner)
        if not is_standing(end):
            raise InvalidStanding(end)
        check_terms(crews, price)
        check_rank(rank)
        Asking.__init__(self, name, owner, crews, price, rank)
        self.start = ()
        self.end = end
        self.key = ("hire", name)
        self.fee = price
        self.begins = end[1]

    def with_terms(self, crews, price):
        """The same hire with another number of crews and another price."""
        return Hire(self.name, self.owner, self.end, crews, price, rank=self.rank)

    def text(self):
        """Its line in the text of a week."""
        place = f"{self.end[0]} {self.end[1]}"
        return f"hire {self.name} {self.owner} {self.rank} {place} {self.crews} {self.price}\n"

    def __eq__(self, other):
        if not isinstance(other, Hire) or self.name != other.name or self.owner != other.owner:
            return False
        if self.end != other.end or self.crews != other.crews:
            return False
        return self.price == other.price and self.rank == other.rank

    def __repr__(self):
        return f"Hire({self.name}, {self.crews} crews at {self.price})"


def by_rank(askings):
    """The list of askings in the order of ranks."""
    return sorted(askings, key=lambda asking: (asking.rank, asking.name))
