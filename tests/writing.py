"""Writes calls as numbers, and takes their answers apart; here alone the tests know how both are written."""

from ferrymemory.memories import answers


def as_bytes(text):
    return list(text.encode("utf-8")) if isinstance(text, str) else list(text)


def written_row(text):
    numbers = as_bytes(text)
    return [len(numbers)] + numbers


def cost(a, b):
    return [1] + written_row(a) + written_row(b)


def around_of(p, q, around):
    """around follows from which of p and q are given, if it isn't given itself."""
    return (p is not None) + 2 * (q is not None) if around is None else around


def put(s, t, p=None, q=None, m=0, around=None, tick=0, person=0):
    rows = [s, t, p or "", q or ""]
    return [2, m, around_of(p, q, around), tick, person] + [n for row in rows for n in written_row(row)]


def drop(entry, m=0):
    return [3, m, entry]


def counts(m=0):
    return [4, m]


def next_from(start, m=0):
    return [5, m, start]


def row(entry, which, m=0):
    return [6, m, entry, which]


def stamp(entry, m=0):
    return [7, m, entry]


def best(s, p=None, q=None, m=0, around=None, least=0, most=256):
    rows = [s, p or "", q or ""]
    return [8, m, around_of(p, q, around), least, most] + [n for row in rows for n in written_row(row)]


def target(entry, s, m=0):
    return [9, m, entry] + written_row(s)


def has(t, start=0, side=0, m=0):
    return [10, m, side, start] + written_row(t)


def merge(m):
    return [11, m]


def taken_apart(told):
    parts = []
    place = 0
    while place < len(told):
        end = place + 1 + told[place]
        parts.append(told[place + 1:end])
        place = end
    if place != len(told):
        raise AssertionError("an answer is shorter than it says")
    return parts


def ask(*calls):
    """The answers of these calls on one object, a list for each."""
    return taken_apart(answers([number for call in calls for number in call]))


def ask_many(calls):
    """The answers of any number of calls that do not hang together."""
    found = []
    for start in range(0, len(calls), 400):
        found.extend(ask(*calls[start:start + 400]))
    return found


def told_text(text):
    """What row and target answer for a text."""
    numbers = as_bytes(text)
    return [0, len(numbers)] + numbers


def told_matches(answer):
    """What best answers, a tuple for each match: number, kind, how near, cost."""
    if len(answer) != 1 + 4 * answer[0]:
        raise AssertionError("there are not as many matches as are told")
    return [tuple(answer[place:place + 4]) for place in range(1, len(answer), 4)]
