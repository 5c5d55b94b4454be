"""Lent crews: loans between camps, their deposits, and what they need."""

from standworth.cover import cover
from standworth.errors import InvalidName, InvalidNumber, InvalidOwed, InvalidStanding, TooMany, UnknownNumber
from standworth.words import is_name, is_number, is_standing, is_whole

MOST_LOANS = 40
MOST_CREWS = 99


def check_loan(lender, borrower, standing, crews):
    """Refuse values that make no loan."""
    if not is_name(lender):
        raise InvalidName(lender)
    if not is_name(borrower) or borrower == lender:
        raise InvalidName(borrower)
    if not is_standing(standing):
        raise InvalidStanding(standing)
    if not is_number(crews, 1, MOST_CREWS):
        raise InvalidNumber(crews)


def owed_by(camp, loan):
    """The crews that a camp of a loan owes by it, below 0 if it has lent them."""
    _, _, borrower, _, crews = loan
    return crews if borrower == camp else -crews


def demand_standings(held, loans):
    """Refuse loans at standings that are none of ties, or of a row."""
    standings = held.standings()
    for loan in loans:
        if loan[3] not in standings:
            raise InvalidOwed()


def evened(owed):
    """The list of the triples (lender, borrower, crews) that make even what an ascending dict of camps owes."""
    left = {camp: abs(owed[camp]) for camp in owed}
    owing = [camp for camp in owed if owed[camp] > 0]
    claiming = [camp for camp in owed if owed[camp] < 0]
    told = []
    while len(owing) > 0:
        lender, borrower = claiming[0], owing[0]
        crews = min(left[lender], left[borrower])
        told.append((lender, borrower, crews))
        left[lender] -= crews
        left[borrower] -= crews
        owing = [camp for camp in owing if left[camp] > 0]
        claiming = [camp for camp in claiming if left[camp] > 0]
    return told


class Lending:
    """A lending; it begins without loans and deposits."""

    def __init__(self):
        self._loans = {}
        self._next = 0
        self._deposits = {}

    def lend(self, lender, borrower, standing, crews):
        """Lend crews at a standing; it returns the number of the loan."""
        check_loan(lender, borrower, standing, crews)
        if len(self._loans) >= MOST_LOANS:
            raise TooMany(MOST_LOANS)
        return self._enter(lender, borrower, standing, crews)

    def give_back(self, number):
        """End a loan."""
        if not is_whole(number) or number not in self._loans:
            raise UnknownNumber(number)
        del self._loans[number]

    def lay(self, camp, money):
        """Add money, which may be below 0, to the deposit of a camp."""
        if not is_name(camp):
            raise InvalidName(camp)
        if not is_whole(money) or self.deposit(camp) + money < 0:
            raise InvalidNumber(money)
        self._deposits[camp] = self.deposit(camp) + money

    def loans(self):
        """The ascending list of the tuples (number, lender, borrower, standing, crews)."""
        return [self._loans[number] for number in self._loans]

    def camps(self):
        """The ascending list of the names that stand in loans or have a deposit above 0."""
        named = [camp for loan in self.loans() for camp in loan[1:3]]
        named.extend([camp for camp in self._deposits if self._deposits[camp] > 0])
        return sorted(set(named))

    def deposit(self, camp):
        """The deposit of a camp, 0 for any value that has none."""
        return self._deposits.get(camp, 0) if is_name(camp) else 0

    def position(self, camp):
        """A dict of standings to the crews other than 0 that a camp owes there."""
        owed = {}
        for loan in self._loans_of(camp):
            owed[loan[3]] = owed.get(loan[3], 0) + owed_by(camp, loan)
        return {standing: owed[standing] for standing in sorted(list(owed)) if owed[standing] != 0}

    def need(self, camp, ties):
        """The cover of the position of a camp, 0 for any value without loans."""
        loans = self._loans_of(camp)
        if len(loans) == 0:
            return 0
        demand_standings(ties, loans)
        return cover(ties, self.position(camp))

    def gross_need(self, camp, ties):
        """The sum of the covers of the loans of a camp one by one, 0 for any value without loans."""
        loans = self._loans_of(camp)
        if len(loans) > 0:
            demand_standings(ties, loans)
        return sum([cover(ties, {loan[3]: owed_by(camp, loan)}) for loan in loans])

    def netted(self):
        """A new lending with the same deposits and positions, in which camps that owe lead to camps that are owed."""
        other = Lending()
        other._deposits = {camp: self._deposits[camp] for camp in self._deposits}
        positions = {camp: self.position(camp) for camp in self.camps()}
        for standing in sorted({loan[3] for loan in self.loans()}):
            owed = {camp: positions[camp].get(standing, 0) for camp in positions}
            for lender, borrower, crews in evened(owed):
                other._enter(lender, borrower, standing, crews)
        return other

    def called_in(self, camp, row):
        """The list of the tuples (number, lender, due, paid) for the loans that a camp has borrowed."""
        loans = self._loans_of(camp)
        demand_standings(row, loans)
        money = self.deposit(camp)
        money += sum([crews * row.worth(standing) for _, lender, _, standing, crews in loans if lender == camp])
        told = []
        for number, lender, borrower, standing, crews in loans:
            if borrower == camp:
                due = crews * row.worth(standing)
                paid = min(due, money)
                money -= paid
                told.append((number, lender, due, paid))
        return told

    def twin(self):
        """An independent lending in the same state."""
        other = Lending()
        other._loans = {number: self._loans[number] for number in self._loans}
        other._next = self._next
        other._deposits = {camp: self._deposits[camp] for camp in self._deposits}
        return other

    def _enter(self, lender, borrower, standing, crews):
        number = self._next
        self._next += 1
        self._loans[number] = (number, lender, borrower, standing, crews)
        return number

    def _loans_of(self, camp):
        """The list of the loans in which any value is lender or borrower."""
        return [loan for loan in self.loans() if camp in loan[1:3]]

    def __len__(self):
        return len(self._loans)

    def __bool__(self):
        return True

    def __repr__(self):
        return f"Lending({len(self._loans)} loans)"
