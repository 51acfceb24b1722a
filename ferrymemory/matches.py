"""The matches of a segment that is asked for, in their order."""

from ferrymemory.costs import Savings, cost_of, nearness
from ferrymemory.entries import key_of
from ferrymemory.tags import form_of
from ferrymemory.units import units_of, weight_of


class Match:
    """An entry held against what is asked for."""

    def __init__(self, entry, kind, near, cost):
        self.entry = entry
        self.kind = kind
        self.near = near
        self.cost = cost


def rank_of(found):
    """What is less of a match that comes first."""
    tick = found.entry.stamp[0]
    person = found.entry.stamp[1]
    return (-found.kind, -found.near, found.cost, -tick, -person, found.entry.number)


def same_neighbours(rows, asked):
    """Whether both neighbours are told here and there, and the same."""
    neighbours = key_of(rows[2:])
    return None not in neighbours and neighbours == key_of(asked[2:])


def kind_of(rows, asked, cost):
    """The kind of an entry's rows, held against those asked for, which stand in the same order."""
    # The cost is nothing just of the same units, and the same pieces and one form have the same units.
    if cost > 0:
        return 0
    if rows[0].pieces == asked[0].pieces:
        return 4 if same_neighbours(rows, asked) else 3
    return 2 if form_of(rows[0].pieces) == form_of(asked[0].pieces) else 1


def matches_of(memory, asked, least):
    """All matches that are so near at least, in their order."""
    units = units_of(asked[0].pieces)
    savings = Savings(units)
    weight = weight_of(units)
    found = []
    for entry in memory.entries.values():
        cost = cost_of(entry.units[0], savings)
        near = nearness(cost, weight + weight_of(entry.units[0]))
        if near >= least:
            found.append(Match(entry, kind_of(entry.rows, asked, cost), near, cost))
    return sorted(found, key=rank_of)
