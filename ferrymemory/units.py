"""The units of a row: words, signs and tags, with their weights."""

from ferrymemory.rows import CHARACTER
from ferrymemory.tags import form_of

BLANK = 0x20
SIGNS = (
    (0x21, 0x2F), (0x3A, 0x40), (0x5B, 0x60), (0x7B, 0x7E), (0xA1, 0xBF),
    (0xD7, 0xD7), (0xF7, 0xF7), (0x2010, 0x206F), (0x3000, 0x303F),
)

# A word of digits alone is a group of its own, as nothing but another such is put in its place.
FIGURES = 0
WORD = 1
SIGN = 2
TAG = 3
WEIGHTS = (4, 4, 2, 1)


class Unit:
    """A unit: its group, what it is, and what it is with A to Z as a to z."""

    def __init__(self, group, content, folded):
        self.group = group
        self.content = content
        self.folded = folded
        self.weight = WEIGHTS[group]


def is_sign(code):
    for bounds in SIGNS:
        if bounds[0] <= code <= bounds[1]:
            return True
    return False


def is_digit(code):
    return 0x30 <= code <= 0x39


def lowered(code):
    return code + 0x20 if 0x41 <= code <= 0x5A else code


def word_unit(codes):
    group = FIGURES if all([is_digit(code) for code in codes]) else WORD
    return Unit(group, tuple(codes), tuple([lowered(code) for code in codes]))


def is_of_word(piece):
    return piece[0] == CHARACTER and piece[1] != BLANK and not is_sign(piece[1])


def units_of(pieces):
    units = []
    word = []
    for piece in form_of(pieces):
        if is_of_word(piece):
            word.append(piece[1])
            continue
        if word:
            units.append(word_unit(word))
            word = []
        if piece[0] != CHARACTER:
            units.append(Unit(TAG, piece, piece))
        elif piece[1] != BLANK:
            units.append(Unit(SIGN, piece[1], piece[1]))
    if word:
        units.append(word_unit(word))
    return units


def weight_of(units):
    return sum([unit.weight for unit in units])
