"""A row's tags: whether they are straight, which halves they leave, and the row's form."""

from ferrymemory.refusals import NotStraight
from ferrymemory.rows import ALONE, CHARACTER, CLOSE, OPEN


class Tags:
    """The tags of a straight row, gone through from the left."""

    def __init__(self):
        self.seen = {}
        self.left_halves = []
        # What lies here at the row's end are its right halves, the lowest first.
        self.pile = []

    def allows(self, tag):
        """Whether the row is still straight with this tag behind what it has."""
        kind = tag[0]
        number = tag[1]
        if tag in self.seen:
            return False
        if kind == ALONE:
            return (OPEN, number) not in self.seen and (CLOSE, number) not in self.seen
        if (ALONE, number) in self.seen:
            return False
        if kind == OPEN:
            return (CLOSE, number) not in self.seen
        return not self.pile or self.pile[-1] == number

    def put_behind(self, tag):
        self.seen[tag] = True
        if tag[0] == OPEN:
            self.pile.append(tag[1])
        elif tag[0] == CLOSE and self.pile:
            self.pile.pop()
        elif tag[0] == CLOSE:
            self.left_halves.append(tag[1])


def tags_of(row):
    """The tags of a row; raises NotStraight where it is not straight."""
    tags = Tags()
    for piece, place in zip(row.pieces, row.places):
        if piece[0] == CHARACTER:
            continue
        if not tags.allows(piece):
            raise NotStraight(place)
        tags.put_behind(piece)
    return tags


def fits(target, segment):
    """Whether a target fits a segment, both straight rows."""
    ours = tags_of(target)
    theirs = tags_of(segment)
    if ours.seen != theirs.seen:
        return False
    return ours.left_halves == theirs.left_halves and ours.pile == theirs.pile


def form_of(pieces):
    """The pieces with their tags' numbers renamed 1, 2, .. in the order in which they first stand."""
    names = {}
    form = []
    for piece in pieces:
        if piece[0] == CHARACTER:
            form.append(piece)
        else:
            form.append((piece[0], names.setdefault(piece[1], len(names) + 1)))
    return form
