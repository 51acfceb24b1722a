"""Finding the words and signs of one row in those of others."""

from ferrymemory.refusals import NoEntry
from ferrymemory.units import TAG


def words_and_signs(units):
    """What stands beside the tags, with A to Z as a to z."""
    return [unit.folded for unit in units if unit.group != TAG]


def stand_in(few, many):
    """Whether the few stand among the many, one behind another."""
    for start in range(len(many) - len(few) + 1):
        if many[start:start + len(few)] == few:
            return True
    return False


def first_with(memory, side, start, units):
    """The least number, from start on, of an entry that has the words and signs of these units on that side."""
    wanted = words_and_signs(units)
    for number in memory.numbers_from(start):
        if stand_in(wanted, words_and_signs(memory.entries[number].units[side])):
            return number
    raise NoEntry()
