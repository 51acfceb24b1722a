"""Characters, pieces and texts: which bytes are a row's text, and where the fault of others is."""

import random
import unittest

from tests.writing import ask, ask_many, cost, put, row, told_text


def is_character(code):
    if code < 0x20 or 0x7F <= code <= 0x9F or 0xD800 <= code <= 0xDFFF or code > 0x10FFFF:
        return False
    return code & 0xFFFF not in (0xFFFE, 0xFFFF)


def all_piece_texts():
    whole = {chr(code).encode("utf-8") for code in range(0x110000) if is_character(code)}
    whole.remove(b"{")
    whole.add(b"{{")
    for kind in "+-.":
        whole.update(f"{{{kind}{n}}}".encode() for n in range(1, 1000))
    return whole


class TextTest(unittest.TestCase):
    @classmethod
    def setUpClass(cls):
        cls.whole = all_piece_texts()
        cls.begun = {text[:length] for text in cls.whole for length in range(1, len(text) + 1)}

    @classmethod
    def tearDownClass(cls):
        del cls.whole, cls.begun

    def fault(self, text):
        """The fault by the words: the first byte with which no row's text goes on; None if it's a row's text."""
        piece = b""
        for place, byte in enumerate(text):
            piece += bytes([byte])
            if piece not in self.begun:
                return place
            if piece in self.whole:
                piece = b""
        return len(text) if piece else None

    def check(self, texts):
        for text, answer in zip(texts, ask_many([cost(text, "") for text in texts])):
            place = self.fault(text)
            if place is None:
                # A row of tags that is not straight is a row's text all the same.
                self.assertTrue(len(answer) == 4 or answer[:2] == [-5, 12], (text, answer))
            else:
                self.assertEqual(answer, [-5, 11, place], text)

    def test_every_one_and_two_bytes(self):
        self.check([bytes([one]) for one in range(256)])
        self.check([bytes([one, two]) for one in range(256) for two in range(256)])

    def test_three_and_four_bytes_around_every_bound(self):
        edges = (0x00, 0x20, 0x7B, 0x7F, 0x80, 0x8F, 0x90, 0x9F, 0xA0, 0xBD, 0xBE, 0xBF, 0xC0, 0xFF)
        leads = (0xC2, 0xDF, 0xE0, 0xE1, 0xEC, 0xED, 0xEE, 0xEF, 0xF0, 0xF1, 0xF3, 0xF4, 0xF5)
        threes = [bytes([lead, two, three]) for lead in leads for two in edges for three in edges]
        self.check(threes)
        self.check([three + bytes([four]) for three in threes for four in edges])

    def test_characters_at_both_ends_of_each_range(self):
        ends = [0x20, 0x7E, 0xA0, 0x7FF, 0x800, 0xD7FF, 0xE000, 0xFDD0, 0xFFFD]
        for plane in range(1, 17):
            ends += [plane * 0x10000, plane * 0x10000 + 0xFFFD]
        for code in ends:
            text = chr(code) if code != 0x7B else "{{"
            self.assertEqual(ask(put(text, text), row(0, 0))[1], told_text(text), hex(code))

    def test_what_is_left_out_at_both_ends(self):
        left_out = {0x00: 0, 0x1F: 0, 0x7F: 0, 0x80: 1, 0x9F: 1, 0xD800: 1, 0xDFFF: 1, 0xFFFE: 2, 0xFFFF: 2}
        for plane in range(1, 17):
            left_out[plane * 0x10000 + 0xFFFE] = 3
            left_out[plane * 0x10000 + 0xFFFF] = 3
        for code, place in left_out.items():
            text = b"ab" + chr(code).encode("utf-8", "surrogatepass")
            self.assertEqual(ask(cost(text, "")), [[-5, 11, 2 + place]], hex(code))

    def test_utf8_that_is_cut_off_overlong_or_too_high(self):
        cases = {
            b"\xc3": 1, b"\xe2\x82": 2, b"\xf0\x9f\x98": 3, b"\xe2\x82a": 2, b"\xf0\x9f{": 2,
            b"\xc0\x80": 0, b"\xc1\xbf": 0, b"\xe0\x9f\xbf": 1, b"\xf0\x8f\xbf\xbf": 1,
            b"\xed\xa0\x80": 1, b"\xed\xbf\xbf": 1, b"\xf4\x90\x80\x80": 1, b"\xf5\x80\x80\x80": 0,
            b"\x80": 0, b"\xbf": 0, b"\xff": 0,
        }
        for text, place in cases.items():
            self.assertEqual(ask(cost(text, ""), cost("", b"xyz" + text)), [[-5, 11, place], [-5, 21, 3 + place]], text)

    def test_tags_and_braces(self):
        good = ["{{", "{{}", "}", "{{+1}", "{+1}", "{-1}", "{.1}", "{+999}", "{-999}", "{.999}", "{+10}", "{.100}",
                "{{{+7}{{", ""]
        for text in good:
            self.assertEqual(ask(put(text, text), row(0, 0), row(0, 1))[1:], [told_text(text)] * 2, text)
        bad = {"{": 1, "{}": 1, "{x": 1, "{1}": 1, "{ +1}": 1, "{*1}": 1, "{,1}": 1, "{/1}": 1, "{+": 2, "{+}": 2,
               "{+0}": 2, "{+01}": 2, "{-00}": 2, "{.a}": 2, "{++1}": 2, "{+1": 3, "{+1 }": 3, "{+1{": 3, "{+1a}": 3,
               "{+12": 4, "{+12/}": 4, "{+12:}": 4, "{+999": 5, "{+1000}": 5, "{+9990}": 5, "{{{": 3, "ab{{{+1}{": 9,
               "{+/}": 2, "{+:}": 2}
        for text, place in bad.items():
            self.assertEqual(ask(cost(text, "")), [[-5, 11, place]], text)

    def test_every_tag_has_its_text(self):
        for kind in "+-.":
            tags = [f"{{{kind}{n}}}" for n in range(1, 1000)]
            for start in range(0, 999, 100):
                text = "".join(tags[start:start + 100])
                self.assertEqual(ask(cost(text, ""))[0][2], len(tags[start:start + 100]))

    def test_random_mixtures(self):
        chance = random.Random(1)
        parts = [b"{", b"{{", b"}", b"+", b"-", b".", b"0", b"1", b"9", b"12", b"{+1}", b"{-20}", b"{.300}", b"a", b" ",
                 b"\xc2", b"\xa0", b"\xe2\x82\xac", b"\xef\xbf", b"\xbe", b"\xbd", b"\xf0\x9f\x98\x80", b"\xf4\x8f\xbf"]
        self.check([b"".join(chance.choices(parts, k=chance.randrange(1, 9))) for turn in range(20000)])


if __name__ == "__main__":
    unittest.main()
