"""A memory and its entries."""

from ferrymemory.refusals import NoEntry, NotTold, TooMuch

MOST_ENTRIES = 256
MOST_PIECES_HELD = 16384


def texts_of(rows):
    return [None if row is None else row.text for row in rows]


def piece_count(rows):
    return sum([len(row.pieces) for row in rows if row is not None])


class Entry:
    """An entry: a number; segment, target, the segments before and behind (None if not told); tick and person."""

    def __init__(self, number, rows, stamp):
        self.number = number
        self.rows = rows
        self.stamp = stamp

    def told_row(self, which):
        row = self.rows[which]
        if row is None:
            raise NotTold()
        return row


class Memory:
    """The entries by their numbers, and the number that is given next."""

    def __init__(self):
        self.entries = {}
        self.next_number = 0

    def pieces_held(self):
        return sum([piece_count(entry.rows) for entry in self.entries.values()])

    def same_entry(self, rows):
        """The entry that has the same four rows, or None. A row has one text, so the texts tell it."""
        texts = texts_of(rows)
        for entry in self.entries.values():
            if texts_of(entry.rows) == texts:
                return entry
        return None

    def put(self, rows, stamp):
        """Puts an entry in and answers its number."""
        entry = self.same_entry(rows)
        if entry is None:
            return self.put_new(rows, stamp)
        entry.stamp = max(entry.stamp, stamp)
        return entry.number

    def put_new(self, rows, stamp):
        if len(self.entries) == MOST_ENTRIES or self.pieces_held() + piece_count(rows) > MOST_PIECES_HELD:
            raise TooMuch()
        number = self.next_number
        self.entries[number] = Entry(number, rows, stamp)
        self.next_number = number + 1
        return number

    def entry_at(self, number):
        if number not in self.entries:
            raise NoEntry()
        return self.entries[number]

    def drop(self, number):
        entry = self.entry_at(number)
        self.entries.pop(entry.number)

    def first_from(self, start):
        """The least number, from start on, that is an entry's."""
        numbers = [number for number in self.entries if number >= start]
        if not numbers:
            raise NoEntry()
        return min(numbers)
