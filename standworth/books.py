"""Books in which nothing is ever struck: transactions are taken back by reversals."""

from standworth.errors import (
    InvalidEntry, InvalidKey, InvalidNumber, NotReversible, Occupied, StandError, Uneven, UnknownNumber,
)
from standworth.words import is_account, is_key, is_number, is_whole

MOST_DONE = 999
MOST_ENTRIES = 8


def is_entry(value):
    """Whether any value is a pair of an account and a number."""
    return isinstance(value, tuple) and len(value) == 2 and is_account(value[0]) and is_whole(value[1])


def check_entries(entries):
    """Refuse any value that is no list of entries with different accounts which add up to 0."""
    if not isinstance(entries, (list, tuple)) or not 1 <= len(entries) <= MOST_ENTRIES:
        raise InvalidEntry(-1)
    accounts = set()
    for at, entry in enumerate(entries):
        if not is_entry(entry) or entry[0] in accounts:
            raise InvalidEntry(at)
        accounts.add(entry[0])
    total = sum([amount for _, amount in entries])
    if total != 0:
        raise Uneven(total)


def check_parts(key, done, entries):
    """Refuse values that are no parts of a transaction."""
    if not is_key(key):
        raise InvalidKey(key)
    if not is_number(done, 0, MOST_DONE):
        raise InvalidNumber(done)
    check_entries(entries)


def is_transaction(value):
    """Whether any value is a tuple (key, done, entries) that may be posted."""
    if not isinstance(value, tuple) or len(value) != 3:
        return False
    key, done, entries = value
    try:
        check_parts(key, done, entries)
    except StandError:
        return False
    return True


def parts_by_key(rows):
    """The ascending dict of keys to the pairs (done, entries) of any value that must be a posting."""
    if not isinstance(rows, (list, tuple)):
        raise InvalidEntry(-1)
    parts = {}
    for at, item in enumerate(rows):
        if not is_transaction(item) or item[0] in parts:
            raise InvalidEntry(at)
        key, done, entries = item
        parts[key] = (done, tuple(sorted(entries)))
    return {key: parts[key] for key in sorted(list(parts))}


def check_bounds(done, known):
    """Refuse values that are neither None nor times."""
    for value in (done, known):
        if value is not None and not is_number(value, 0, MOST_DONE):
            raise InvalidNumber(value)


def is_within(value, bound):
    """Whether a number is at most a bound, where None is no bound."""
    return bound is None or value <= bound


class Books:
    """Books; they begin on the day 0, without transactions."""

    def __init__(self):
        self._day = 0
        self._posted = []
        self._numbers = {}

    @property
    def day(self):
        """The present day."""
        return self._day

    def next_day(self):
        """Let the day go on by one."""
        self._day += 1

    def post(self, key, done, entries):
        """Post a transaction; it returns its number."""
        check_parts(key, done, entries)
        if key in self._numbers:
            raise Occupied(key)
        number = self._enter(key, done, None, tuple(sorted(entries)))
        self._numbers[key] = number
        return number

    def take_back(self, number):
        """Post a reversal of a transaction; it returns its number."""
        _, key, done, _, _, entries = self.record(number)
        if self._numbers.get(key) != number:
            raise NotReversible(number)
        del self._numbers[key]
        return self._enter(key, done, number, tuple([(account, -amount) for account, amount in entries]))

    def square(self, rows):
        """Reverse what differs from a posting and post what is not in force; it returns how many of both."""
        parts = parts_by_key(rows)
        wrong = [key for key in self.keys_in_force() if key not in parts or self._parts_of(key) != parts[key]]
        for key in wrong:
            self.take_back(self._numbers[key])
        lacking = [key for key in parts if key not in self._numbers]
        for key in lacking:
            self.post(key, parts[key][0], parts[key][1])
        return (len(wrong), len(lacking))

    def record(self, number):
        """The tuple (number, key, done, known, reverses, entries) of a transaction."""
        if not is_number(number, 0, len(self._posted) - 1):
            raise UnknownNumber(number)
        return self._posted[number]

    def in_force(self, key):
        """The number of the transaction that is in force for a key, None for any other value."""
        # A key is asked for first, as one with True would be found as one with 1.
        return self._numbers.get(key) if is_key(key) else None

    def keys_in_force(self):
        """The ascending list of the keys for which a transaction is in force."""
        return sorted(list(self._numbers))

    def balance(self, account, *, done=None, known=None):
        """The sum of the amounts of an account, 0 for any other value."""
        return sum([entry[3] for entry in self._entries_of(account, done, known)])

    def trial(self, *, done=None, known=None):
        """A dict of all accounts with entries to their balances."""
        check_bounds(done, known)
        accounts = sorted({account for each in self._posted for account, _ in each[5]})
        return {account: self.balance(account, done=done, known=known) for account in accounts}

    def statement(self, account, *, done=None, known=None):
        """The tuples (number, done, known, amount, sum so far) of the entries of an account, by done and number."""
        total = 0
        for number, when, day, amount in self._entries_of(account, done, known):
            total += amount
            yield (number, when, day, amount, total)

    def twin(self):
        """Independent books in the same state."""
        other = Books()
        other._day = self._day
        other._posted = list(self._posted)
        other._numbers = {key: self._numbers[key] for key in self._numbers}
        return other

    def _enter(self, key, done, reverses, entries):
        number = len(self._posted)
        self._posted.append((number, key, done, self._day, reverses, entries))
        return number

    def _parts_of(self, key):
        """The pair (done, entries) of the transaction that is in force for a key."""
        _, _, done, _, _, entries = self._posted[self._numbers[key]]
        return (done, entries)

    def _entries_of(self, account, done, known):
        """The list of the tuples (number, done, known, amount) of the entries of an account, by done and number."""
        check_bounds(done, known)
        told = [each for each in self._posted if is_within(each[2], done) and is_within(each[3], known)]
        entries = [
            (number, when, day, amount)
            for number, _, when, day, _, pairs in told for owner, amount in pairs if owner == account
        ]
        return sorted(entries, key=lambda entry: (entry[1], entry[0]))

    def __len__(self):
        return len(self._posted)

    def __bool__(self):
        return True

    def __repr__(self):
        return f"Books({len(self._posted)} transactions)"
