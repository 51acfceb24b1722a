"""Taking bytes one by one, the characters that they stand for in UTF-8, and a character's bytes."""

from ferrymemory.refusals import NoText

# RFC 3629 narrows the second byte behind these; behind C2H the characters 80H to 9FH are left out besides.
SECOND_BYTES = {0xC2: (0xA0, 0xBF), 0xE0: (0xA0, 0xBF), 0xED: (0x80, 0x9F), 0xF0: (0x90, 0xBF), 0xF4: (0x80, 0x8F)}


class Scanner:
    """A walk through the bytes of a text."""

    def __init__(self, text):
        self.text = text
        self.place = 0

    def ended(self):
        return self.place == len(self.text)

    def peek(self):
        # -1 is no byte, so an end that comes too early is refused just as a wrong byte is, at its place.
        return -1 if self.ended() else self.text[self.place]

    def take(self, low, high):
        byte = self.peek()
        if byte < low or byte > high:
            raise NoText(self.place)
        self.place += 1
        return byte


def tail_count(lead):
    """How many bytes follow the first byte of a character of more than one byte."""
    if lead < 0xE0:
        return 1
    return 2 if lead < 0xF0 else 3


def highest_tail(code):
    # Ten bits set make, with BEH or BFH behind them, the low 16 bits FFFEH or FFFFH, which are left out.
    # Fewer than ten bits are there before any byte but the last, so this never narrows another.
    return 0xBD if code % 0x400 == 0x3FF else 0xBF


def take_character(scanner):
    lead = scanner.peek()
    if lead < 0x80:
        return scanner.take(0x20, 0x7E)
    scanner.take(0xC2, 0xF4)
    tails = tail_count(lead)
    bounds = SECOND_BYTES.get(lead, (0x80, 0xBF))
    second = scanner.take(bounds[0], bounds[1])
    code = lead % (64 >> tails) * 64 + second % 64
    for turn in range(tails - 1):
        code = code * 64 + scanner.take(0x80, highest_tail(code)) % 64
    return code


def character_bytes(code):
    if code < 0x80:
        return [code]
    if code < 0x800:
        return [0xC0 + code // 0x40, 0x80 + code % 0x40]
    if code < 0x10000:
        return [0xE0 + code // 0x1000, 0x80 + code // 0x40 % 0x40, 0x80 + code % 0x40]
    return [0xF0 + code // 0x40000, 0x80 + code // 0x1000 % 0x40, 0x80 + code // 0x40 % 0x40, 0x80 + code % 0x40]
