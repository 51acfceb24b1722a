"""Rows: the pieces that a text stands for, and the text that stands for pieces."""

from ferrymemory.refusals import NoText
from ferrymemory.scanner import Scanner, character_bytes, take_character

# A piece is a tuple of its kind and its number: a character's code, or a tag's n.
# A tag's kind is the byte that tells it in the text.
CHARACTER = 0
OPEN = 0x2B
CLOSE = 0x2D
ALONE = 0x2E

BRACE = 0x7B
END_BRACE = 0x7D

MOST_PIECES = 4096
MOST_BYTES = 65536


class Row:
    """A row: its text, its pieces, and the place in the text at which each piece begins."""

    def __init__(self, text):
        self.text = text
        self.pieces = []
        self.places = []


def take_tag_number(scanner):
    number = scanner.take(0x31, 0x39) - 0x30
    while number < 100 and scanner.peek() != END_BRACE:
        number = number * 10 + scanner.take(0x30, 0x39) - 0x30
    scanner.take(END_BRACE, END_BRACE)
    return number


def take_tag(scanner):
    kind = scanner.peek()
    if kind not in (OPEN, CLOSE, ALONE):
        raise NoText(scanner.place)
    scanner.take(kind, kind)
    return (kind, take_tag_number(scanner))


def take_piece(scanner):
    if scanner.peek() != BRACE:
        return (CHARACTER, take_character(scanner))
    scanner.take(BRACE, BRACE)
    if scanner.peek() != BRACE:
        return take_tag(scanner)
    return (CHARACTER, scanner.take(BRACE, BRACE))


def read_row(text):
    """The row of a text, of however many pieces; raises NoText where it has none."""
    row = Row(text)
    scanner = Scanner(text)
    while not scanner.ended():
        row.places.append(scanner.place)
        row.pieces.append(take_piece(scanner))
    return row


def piece_text(piece):
    kind = piece[0]
    number = piece[1]
    if kind != CHARACTER:
        return [BRACE, kind] + [ord(digit) for digit in str(number)] + [END_BRACE]
    if number == BRACE:
        return [BRACE, BRACE]
    return character_bytes(number)


def text_of(pieces):
    text = []
    for piece in pieces:
        text.extend(piece_text(piece))
    return text
