"""Straight rows, their halves, and when a target fits a segment."""

import itertools
import unittest

from ferrymemory.rows import read_row
from ferrymemory.tags import form_of
from tests.writing import as_bytes, ask, ask_many, cost, put

TAGS = [(kind, n) for n in (1, 2) for kind in "+-."]


def text_of(tags):
    return "".join(f"{{{kind}{n}}}" for kind, n in tags)


def halves(tags):
    """A second way: what is left when pairs side by side are taken out again and again; None: it is not straight."""
    if len(set(tags)) < len(tags):
        return None
    for kind, n in tags:
        if kind == "." and (("+", n) in tags or ("-", n) in tags):
            return None
        if kind == "-" and ("+", n) in tags[tags.index((kind, n)):]:
            return None
    rest = [tag for tag in tags if tag[0] != "."]
    place = 0
    while place + 1 < len(rest):
        if rest[place] == ("+", rest[place][1]) and rest[place + 1] == ("-", rest[place][1]):
            rest = rest[:place] + rest[place + 2:]
            place = 0
        else:
            place += 1
    kinds = "".join(kind for kind, n in rest)
    if "+-" in kinds:
        return None
    return [n for kind, n in rest if kind == "-"], [n for kind, n in rest if kind == "+"]


def rows_up_to(length):
    return [tags for size in range(length + 1) for tags in itertools.product(TAGS, repeat=size)]


class StraightTest(unittest.TestCase):
    def test_all_small_rows_of_tags(self):
        rows = rows_up_to(5)
        for tags, answer in zip(rows, ask_many([cost(text_of(tags), "") for tags in rows])):
            crooked = [size for size in range(1, len(tags) + 1) if halves(tags[:size]) is None]
            if crooked:
                self.assertEqual(answer, [-5, 12, 4 * (crooked[0] - 1)], tags)
            else:
                self.assertEqual(answer[0], len(tags), tags)

    def test_the_place_is_that_of_the_tag(self):
        cases = {
            "a{+1}b{+1}": 6, "{-12}{-12}": 5, "{.1}{.1}": 4, "{.1}\u20ac{+1}": 7, "{.1}{-1}": 4, "{+1}{.1}": 4,
            "{-1}{.1}": 4, "{-1}x{+1}": 5, "{+1}{+2}{-1}": 8, "{+1}{-2}": 4, "{+1}{-1}{-1}": 8, "{{{+1}{-1}{+1}": 10,
            "{+1}{-2}{+1}{+1}": 4, "{+1}{+2}{-2}{-3}{-1}": 12,
        }
        for text, place in cases.items():
            self.assertEqual(ask(cost(text, "")), [[-5, 12, place]], text)
            self.assertEqual(ask(cost("", text)), [[-5, 22, place]], text)

    def test_halves_on_both_sides_are_straight(self):
        for text in ("{-1}", "{+1}", "{-1}{+2}", "{-3}{-1}{+2}{.4}{+5}", "{+1}{-1}{-2}{+3}", "{+1}{+2}{-2}{-1}"):
            self.assertEqual(len(ask(cost(text, text))[0]), 4, text)

    def test_deep_piles(self):
        deep = "".join(f"{{+{n}}}" for n in range(1, 1000))
        back = "".join(f"{{-{n}}}" for n in range(999, 0, -1))
        self.assertEqual(ask(cost(deep + back, ""))[0], [1998, 0, 1998, 0])
        self.assertEqual(ask(cost(deep + "{-998}", "")), [[-5, 12, len(deep)]])


class FormTest(unittest.TestCase):
    def form(self, text):
        return form_of(read_row(as_bytes(text)).pieces)

    def test_numbers_are_renamed_in_the_order_in_which_they_first_stand(self):
        cases = {"": "", "a b": "a b", "{.1}": "{.1}", "{.999}": "{.1}", "{+7}a{.3}{-7}": "{+1}a{.2}{-1}",
                 "{-2}{+1}": "{-1}{+2}", "{+3}{+2}{-2}{-3}{.1}": "{+1}{+2}{-2}{-1}{.3}"}
        for text, form in cases.items():
            self.assertEqual(self.form(text), read_row(as_bytes(form)).pieces, text)
            self.assertEqual(self.form(form), self.form(text))
        self.assertNotEqual(self.form("{.1}a"), self.form("{+1}a"))
        self.assertNotEqual(self.form("{.1}a"), self.form("a{.1}"))


class FitTest(unittest.TestCase):
    def test_all_small_pairs(self):
        straight = [tags for tags in rows_up_to(4) if halves(tags) is not None]
        pairs = list(itertools.product(straight, straight))
        for s, t in pairs:
            answer = ask(put(text_of(s), text_of(t)))[0]
            fits = sorted(s) == sorted(t) and halves(s) == halves(t)
            self.assertEqual(answer, [0] if fits else [-5, 23, 0], (s, t))

    def test_what_fits(self):
        pairs = [
            ("", ""), ("word", ""), ("", "word"), ("{+1}a{-1}", "b {+1}{-1}"),
            ("{+1}a{-1}{+2}b{-2}", "{+2}{+1}c{-1}{-2}"), ("{-1}a{-2}{+3}{+4}{.5}", "{.5}{-1}{-2}{+3}b{+4}"),
            ("{-1}{+2}", "{-1}x{+2}"),
        ]
        for s, t in pairs:
            self.assertEqual(ask(put(s, t)), [[0]], (s, t))

    def test_each_way_in_which_a_target_may_not_fit(self):
        pairs = [
            ("{.1}", ""), ("", "{.1}"), ("{.1}", "{.2}"), ("{.1}", "{+1}"), ("{.1}", "{-1}"), ("{+1}", "{-1}"),
            ("{+1}{-1}", "{+1}"), ("{+1}{-1}", "{-1}"), ("{.1}{.2}", "{.1}"), ("{.1}", "{.1}{.2}"),
            ("{-1}{-2}", "{-2}{-1}"), ("{+1}{+2}", "{+2}{+1}"), ("{+1}{-1}", "{+2}{-2}"),
            ("{-1}{-2}{+3}", "{-2}{-1}{+3}"), ("{-3}{+1}{+2}", "{-3}{+2}{+1}"),
        ]
        for s, t in pairs:
            self.assertEqual(ask(put(s, t)), [[-5, 23, 0]], (s, t))
        # Of a target that isn't straight, that is told first.
        self.assertEqual(ask(put("{+1}{-1}", "{-1}{+1}")), [[-5, 22, 4]])
        self.assertEqual(ask(put("{.1}", "{.1}{.1}")), [[-5, 22, 4]])
        self.assertEqual(ask(put("{-1}{+2}", "{+2}{-1}")), [[-5, 22, 4]])


if __name__ == "__main__":
    unittest.main()
