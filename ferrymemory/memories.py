"""The calls on two memories, and their answers."""

from ferrymemory.costs import Savings, cost_of, nearness
from ferrymemory.entries import Memory
from ferrymemory.matches import matches_of
from ferrymemory.phrases import first_with
from ferrymemory.reader import Reader
from ferrymemory.refusals import NoEntry, NoText, NotStraight, NotTold, OutOfRange, TooMuch, UnknownCall, WrongRow
from ferrymemory.rows import MOST_BYTES, MOST_PIECES, read_row, text_of
from ferrymemory.tags import fits, tags_of
from ferrymemory.targets import target_for
from ferrymemory.units import units_of, weight_of

TICK_END = 1099511627776
MOST_PERSON = 255
MOST_NEAR = 1000
MOST_MATCHES = 256


def check_lengths(texts):
    for text in texts:
        if text is not None and len(text) > MOST_BYTES:
            raise TooMuch()


def check_choice(number, most):
    if number > most:
        raise OutOfRange()


def straight_row(text, added):
    """The straight row of a text; added is what tells the call's rows apart in the kind of a fault."""
    try:
        row = read_row(text)
    except NoText as e:
        raise WrongRow(added + 1, e.place)
    if len(row.pieces) > MOST_PIECES:
        raise TooMuch()
    try:
        tags_of(row)
    except NotStraight as e:
        raise WrongRow(added + 2, e.place)
    return row


def straight_rows(texts):
    """The rows of a call's texts in their order; None stays where a row isn't told, or the call has none there."""
    rows = []
    for place, text in enumerate(texts):
        rows.append(None if text is None else straight_row(text, 10 * place + 10))
    return rows


def if_told(text, around, bit):
    return text if around & bit else None


def counted(text):
    return [len(text)] + text


def answer_cost(reader):
    texts = [reader.take_text(), reader.take_text()]
    check_lengths(texts)
    rows = straight_rows(texts)
    units = units_of(rows[0].pieces)
    others = units_of(rows[1].pieces)
    cost = cost_of(units, Savings(others))
    weight = weight_of(units)
    other_weight = weight_of(others)
    return [cost, nearness(cost, weight + other_weight), weight, other_weight]


def answer_put(reader, memories):
    which_memory = reader.take_number()
    around = reader.take_number()
    tick = reader.take_number()
    person = reader.take_number()
    texts = [reader.take_text(), reader.take_text()]
    texts.append(if_told(reader.take_text(), around, 1))
    texts.append(if_told(reader.take_text(), around, 2))
    check_lengths(texts)
    if tick >= TICK_END or person > MOST_PERSON:
        raise TooMuch()
    check_choice(which_memory, 1)
    check_choice(around, 3)
    rows = straight_rows(texts)
    if not fits(rows[1], rows[0]):
        raise WrongRow(23, 0)
    return [memories[which_memory].put(rows, (tick, person))]


def answer_drop(reader, memories):
    which_memory = reader.take_number()
    number = reader.take_number()
    check_choice(which_memory, 1)
    memories[which_memory].drop(number)
    return [0]


def answer_counts(reader, memories):
    which_memory = reader.take_number()
    check_choice(which_memory, 1)
    memory = memories[which_memory]
    return [0, len(memory.entries), memory.pieces_held(), memory.next_number]


def answer_next(reader, memories):
    which_memory = reader.take_number()
    start = reader.take_number()
    check_choice(which_memory, 1)
    return [memories[which_memory].first_from(start)]


def answer_row(reader, memories):
    which_memory = reader.take_number()
    number = reader.take_number()
    which = reader.take_number()
    check_choice(which_memory, 1)
    check_choice(which, 3)
    return [0] + counted(memories[which_memory].entry_at(number).told_row(which).text)


def answer_stamp(reader, memories):
    which_memory = reader.take_number()
    number = reader.take_number()
    check_choice(which_memory, 1)
    return [0] + list(memories[which_memory].entry_at(number).stamp)


def answer_best(reader, memories):
    which_memory = reader.take_number()
    around = reader.take_number()
    least = reader.take_number()
    most = reader.take_number()
    # In the order of an entry's rows, so that they are held against those; there is no target among them.
    texts = [reader.take_text(), None]
    texts.append(if_told(reader.take_text(), around, 1))
    texts.append(if_told(reader.take_text(), around, 2))
    check_lengths(texts)
    if least > MOST_NEAR or most == 0 or most > MOST_MATCHES:
        raise TooMuch()
    check_choice(which_memory, 1)
    check_choice(around, 3)
    matches = matches_of(memories[which_memory], straight_rows(texts), least)[:most]
    told = [len(matches)]
    for found in matches:
        told.extend([found.entry.number, found.kind, found.near, found.cost])
    return told


def answer_target(reader, memories):
    which_memory = reader.take_number()
    number = reader.take_number()
    text = reader.take_text()
    check_lengths([text])
    check_choice(which_memory, 1)
    asked = straight_row(text, 10)
    entry = memories[which_memory].entry_at(number)
    pieces = target_for(asked, entry.rows[0], entry.rows[1])
    # So many pieces never have more than 65536 bytes, as none has more than 6.
    if len(pieces) > MOST_PIECES:
        raise TooMuch()
    return [0] + counted(text_of(pieces))


def answer_has(reader, memories):
    which_memory = reader.take_number()
    side = reader.take_number()
    start = reader.take_number()
    text = reader.take_text()
    check_lengths([text])
    check_choice(which_memory, 1)
    check_choice(side, 1)
    units = units_of(straight_row(text, 10).pieces)
    return [first_with(memories[which_memory], side, start, units)]


def answer_merge(reader, memories):
    which_memory = reader.take_number()
    check_choice(which_memory, 1)
    return [memories[which_memory].merge(memories[1 - which_memory])]


def answer_call(reader, memories):
    """The answer of the next call; each takes all its numbers before it refuses, so that the next is found."""
    call = reader.take_number()
    if call == 1:
        return answer_cost(reader)
    if call == 2:
        return answer_put(reader, memories)
    if call == 3:
        return answer_drop(reader, memories)
    if call == 4:
        return answer_counts(reader, memories)
    if call == 5:
        return answer_next(reader, memories)
    if call == 6:
        return answer_row(reader, memories)
    if call == 7:
        return answer_stamp(reader, memories)
    if call == 8:
        return answer_best(reader, memories)
    if call == 9:
        return answer_target(reader, memories)
    if call == 10:
        return answer_has(reader, memories)
    if call == 11:
        return answer_merge(reader, memories)
    raise UnknownCall()


def answer_or_refusal(reader, memories):
    try:
        return answer_call(reader, memories)
    except OutOfRange:
        return [-1]
    except NoEntry:
        return [-2]
    except NotTold:
        return [-3]
    except WrongRow as e:
        return [-5, e.kind, e.place]
    except TooMuch:
        return [-6]


def answers(calls):
    """The answers of a list of calls on two new memories, each behind how many numbers it has."""
    reader = Reader(calls)
    memories = [Memory(), Memory()]
    told = []
    while not reader.ended():
        answer = answer_or_refusal(reader, memories)
        told.append(len(answer))
        told.extend(answer)
    return told
