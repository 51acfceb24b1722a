"""Writes calls as numbers, and takes their answers apart; here alone the tests know how both are written."""

from ferrymemory.memories import answers


def as_bytes(text):
    return list(text.encode("utf-8")) if isinstance(text, str) else list(text)


def written_row(text):
    numbers = as_bytes(text)
    return [len(numbers)] + numbers


def cost(a, b):
    return [1] + written_row(a) + written_row(b)


def put(s, t, p=None, q=None, m=0, around=None, tick=0, person=0):
    """around follows from which of p and q are given, if it isn't given itself."""
    if around is None:
        around = (p is not None) + 2 * (q is not None)
    rows = [s, t, p or "", q or ""]
    return [2, m, around, tick, person] + [n for row in rows for n in written_row(row)]


def drop(entry, m=0):
    return [3, m, entry]


def counts(m=0):
    return [4, m]


def next_from(start, m=0):
    return [5, m, start]


def row(entry, which, m=0):
    return [6, m, entry, which]


def taken_apart(told):
    parts = []
    place = 0
    while place < len(told):
        end = place + 1 + told[place]
        parts.append(told[place + 1:end])
        place = end
    if place != len(told):
        raise AssertionError("an answer is shorter than it says")
    return parts


def ask(*calls):
    """The answers of these calls on one object, a list for each."""
    return taken_apart(answers([number for call in calls for number in call]))


def ask_many(calls):
    """The answers of any number of calls that do not hang together."""
    found = []
    for start in range(0, len(calls), 400):
        found.extend(ask(*calls[start:start + 400]))
    return found


def told_text(text):
    """What row answers for a text."""
    numbers = as_bytes(text)
    return [0, len(numbers)] + numbers
