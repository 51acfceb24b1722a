"""A memory and its entries."""

from ferrymemory.refusals import NoEntry, NotTold, TooMuch
from ferrymemory.units import units_of

MOST_ENTRIES = 256
MOST_PIECES_HELD = 16384


def key_of(rows):
    """What is the same just of the same rows, told or not told alike. A row has one text, so the texts tell it."""
    return tuple([None if row is None else tuple(row.text) for row in rows])


def piece_count(rows):
    return sum([len(row.pieces) for row in rows if row is not None])


class Entry:
    """An entry: a number; segment, target, the segments before and behind (None if not told); tick and person."""

    def __init__(self, number, rows, stamp):
        self.number = number
        self.rows = rows
        self.stamp = stamp
        # The segment's and the target's, kept as every best and every has goes through them.
        self.units = [units_of(rows[0].pieces), units_of(rows[1].pieces)]

    def told_row(self, which):
        row = self.rows[which]
        if row is None:
            raise NotTold()
        return row


class Memory:
    """The entries by their numbers, and the number that is given next."""

    def __init__(self):
        self.entries = {}
        # The number of each entry by its rows, so that a merge does not hold all entries against all.
        self.numbers = {}
        self.next_number = 0

    def pieces_held(self):
        return sum([piece_count(entry.rows) for entry in self.entries.values()])

    def has_same(self, rows):
        return key_of(rows) in self.numbers

    def check_room(self, new):
        """Refuses where new entries, told by their rows, would be beyond the bounds."""
        pieces = self.pieces_held() + sum([piece_count(rows) for rows in new])
        if len(self.entries) + len(new) > MOST_ENTRIES or pieces > MOST_PIECES_HELD:
            raise TooMuch()

    def put(self, rows, stamp):
        """Puts an entry in and answers its number."""
        if not self.has_same(rows):
            self.check_room([rows])
        return self.put_where_room(rows, stamp)

    def put_where_room(self, rows, stamp):
        key = key_of(rows)
        if key in self.numbers:
            entry = self.entries[self.numbers[key]]
            entry.stamp = max(entry.stamp, stamp)
            return entry.number
        number = self.next_number
        self.entries[number] = Entry(number, rows, stamp)
        self.numbers[key] = number
        self.next_number = number + 1
        return number

    def merge(self, other):
        """Puts all entries of another memory in and answers how many are new."""
        entries = [other.entries[number] for number in other.numbers_from(0)]
        # No two entries of the other have the same rows, so those that are not here yet are all new.
        new = [entry.rows for entry in entries if not self.has_same(entry.rows)]
        self.check_room(new)
        for entry in entries:
            self.put_where_room(entry.rows, entry.stamp)
        return len(new)

    def entry_at(self, number):
        if number not in self.entries:
            raise NoEntry()
        return self.entries[number]

    def drop(self, number):
        entry = self.entry_at(number)
        self.entries.pop(number)
        self.numbers.pop(key_of(entry.rows))

    def numbers_from(self, start):
        """The numbers of the entries, from start on, the least first."""
        return sorted([number for number in self.entries if number >= start])

    def first_from(self, start):
        numbers = self.numbers_from(start)
        if not numbers:
            raise NoEntry()
        return numbers[0]
