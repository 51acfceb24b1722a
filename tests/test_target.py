"""Target: an entry's target in the tags of the segment that is asked for, which it always fits."""

import itertools
import re
import unittest

from tests.test_straight import halves, rows_up_to, text_of
from tests.writing import ask, counts, drop, put, row, stamp, target, told_text

PART = re.compile(r"\{\{|\{[+.-]\d+\}|[^{]")


def parts(text):
    """A text cut into its pieces' texts."""
    return PART.findall(text)


def tags(text):
    return [part for part in parts(text) if part[0] == "{" and part != "{{"]


def number(tag):
    return tag[2:-1]


def renaming(ours, theirs):
    """Our tags' numbers by theirs, place by place; None if the tags are not of one form."""
    names = {}
    if [tag[1] for tag in ours] != [tag[1] for tag in theirs]:
        return None
    for one, other in zip(ours, theirs):
        if names.setdefault(number(one), number(other)) != number(other):
            return None
    return names if len(set(names.values())) == len(names) else None


def second_way(segment, told, s):
    """The text of an entry's target in s's tags, as the words tell it."""
    names = renaming(tags(segment), tags(s))
    if names is not None:
        return "".join(part[:2] + names[number(part)] + "}" if part in tags(told) else part for part in parts(told))
    left = [f"{{-{n}}}" for n in halves([(tag[1], number(tag)) for tag in tags(s)])[0]]
    plain = [part for part in parts(told) if part not in tags(told)]
    return "".join(left + plain + [tag for tag in tags(s) if tag not in left])


class TargetTest(unittest.TestCase):
    def check(self, segment, told, s, answer):
        """The entry's target for s is so, and it fits s: it is let in as the target of s."""
        self.assertEqual(ask(put(segment, told), target(0, s), put(s, answer, m=1)), [[0], told_text(answer), [0]],
                         (segment, told, s))
        self.assertEqual(second_way(segment, told, s), answer)

    def test_tags_of_one_form(self):
        cases = [
            ("a", "b", "c", "b"), ("", "", "", ""), ("{.1}", "x{.1}", "{.2}", "x{.2}"), ("{.1}", "x{.1}", "y", "x"),
            ("Press {+1}F1{-1}.", "{+1}F1{-1} dr\u00fccken", "Hold {+7}F1{-7}!", "{+7}F1{-7} dr\u00fccken"),
            # The words round the tags may be others, and so may be the order in the target.
            ("a{.1}b{.2}", "{.2}y{.1}", "{.5}c{.4}", "{.4}y{.5}"),
            ("{+1}a{-1}{+2}b{-2}", "{+2}{+1}x{-1}{-2}", "{+3}{-3}{+4}{-4}", "{+4}{+3}x{-3}{-4}"),
            ("{-1}a{+2}", "x{-1}{+2}", "{-20}b{+10}", "x{-20}{+10}"),
            ("{.999}", "{.999}", "{.1}", "{.1}"), ("{.1}", "{{{.1}{{1}", "{.999}", "{{{.999}{{1}"),
        ]
        for segment, told, s, answer in cases:
            self.check(segment, told, s, answer)

    def test_numbers_that_trade_places(self):
        self.check("{.1}{.2}", "{.1}a{.2}", "{.2}{.1}", "{.2}a{.1}")
        self.check("{.1}{.2}", "{.2}a{.1}", "{.2}{.1}", "{.1}a{.2}")
        self.check("{.1}{.2}{.3}", "{.3}{.1}{.2}", "{.2}{.3}{.1}", "{.1}{.2}{.3}")
        self.check("{+1}{+2}{-2}{-1}", "{+2}{+1}{-1}{-2}", "{+2}{+1}{-1}{-2}", "{+1}{+2}{-2}{-1}")
        self.check("{-1}{-2}{+3}{+4}", "{-1}{-2}x{+3}{+4}", "{-4}{-3}{+2}{+1}", "{-4}{-3}x{+2}{+1}")
        self.check("{.1}{.12}", "{.12}{.1}", "{.12}{.2}", "{.2}{.12}")

    def test_tags_of_another_form(self):
        cases = [
            ("a", "x y", "{.1}", "x y{.1}"), ("{.1}", "x{.1}y", "{.1}{.2}", "xy{.1}{.2}"),
            ("{.1}", "x{.1}y", "{+1}a{-1}", "xy{+1}{-1}"), ("{+1}{-1}", "x{+1}y{-1}z", "{-1}", "{-1}xyz"),
            ("{+1}{-1}", "x{+1}y{-1}z", "{+1}", "xyz{+1}"), ("{+1}", "x{+1}y", "{-1}", "{-1}xy"),
            ("a", "x", "{-3}a{-1}{-2}", "{-3}{-1}{-2}x"), ("a", "x", "{+3}a{+1}{+2}", "x{+3}{+1}{+2}"),
            ("a", "x", "{.5}{-3}b{+4}{-4}{-2}{+1}{.6}{+7}", "{-3}{-2}x{.5}{+4}{-4}{+1}{.6}{+7}"),
            ("a", "x", "{+4}{.5}{-4}{-9}", "{-9}x{+4}{.5}{-4}"), ("{.1}", "{.1}", "", ""),
            ("{.1}{.2}", "{{{.1}\u20ac{.2}{{", "{+2}{-2}", "{{\u20ac{{{+2}{-2}"), ("{.1}", "{.1}", "{-8}", "{-8}"),
            # Nested here, side by side there.
            ("{+1}{+2}{-2}{-1}", "{+1}a{+2}{-2}{-1}", "{+1}{-1}{+2}{-2}", "a{+1}{-1}{+2}{-2}"),
        ]
        for segment, told, s, answer in cases:
            self.check(segment, told, s, answer)

    def test_all_small_tags(self):
        straight = [text_of(row) for row in rows_up_to(3) if halves(row) is not None]
        for segment, s in itertools.product(straight, straight):
            told = "\u00e9".join([""] + tags(segment) + [""])
            self.check(segment, told, s, second_way(segment, told, s))

    def test_a_target_whose_tags_stand_in_another_order(self):
        fours = [row for row in rows_up_to(4) if len(row) == 4 and halves(row) is not None]
        pairs = [(one, other) for one, other in itertools.product(fours, fours)
                 if sorted(one) == sorted(other) and halves(one) == halves(other) and one != other]
        self.assertGreater(len(pairs), 10)
        for one, other in pairs:
            for s in fours:
                told = "a" + text_of(other) + "b"
                self.check(text_of(one), told, text_of(s), second_way(text_of(one), told, text_of(s)))

    def test_characters_of_every_length(self):
        ends = [0x20, 0x7E, 0xA0, 0x7FF, 0x800, 0xD7FF, 0xE000, 0xFFFD]
        for plane in range(1, 17):
            ends += [plane * 0x10000, plane * 0x10000 + 0xFFFC, plane * 0x10000 + 0xFFFD]
        for code in ends:
            for asked in ("a", "{.1}"):
                self.check("a", chr(code) * 2, asked, chr(code) * 2 + asked.replace("a", ""))
        text = "".join(chr(code) for code in range(0xA0, 0xFFFE, 211) if not 0xD800 <= code <= 0xDFFF)
        self.check("", text, "", text)

    def test_every_number(self):
        for n in range(1, 1000, 7):
            self.check("{.5}", "x{.5}", f"a{{.{n}}}", f"x{{.{n}}}")

    def test_the_entry_stays_as_it_is(self):
        told = ask(put("{.1}", "x{.1}", tick=3), target(0, "{.2}"), target(0, "{+1}"), target(0, "{.1}"), row(0, 0),
                   row(0, 1), stamp(0), counts())
        self.assertEqual(told[1:], [told_text("x{.2}"), told_text("x{+1}"), told_text("x{.1}"), told_text("{.1}"),
                                    told_text("x{.1}"), [0, 3, 0], [0, 1, 3, 1]])

    def test_no_such_entry(self):
        told = ask(target(0, "a"), put("a", "b"), target(0, "a"), target(1, "a"), target(0, "a", m=1), drop(0),
                   target(0, "a"), target(4294967295, "a"))
        self.assertEqual(told, [[-2], [0], told_text("b"), [-2], [-2], [0], [-2], [-2]])


class BoundTest(unittest.TestCase):
    def same(self, told, wanted):
        # So long lists are not told apart number by number: that would take minutes.
        self.assertTrue(told == wanted)

    def test_4096_pieces(self):
        self.same(ask(put("", "x" * 4096), target(0, ""), target(0, "{.1}"), counts()),
                  [[0], told_text("x" * 4096), [-6], [0, 1, 4096, 1]])
        self.same(ask(put("", "x" * 4095), target(0, "{.1}"), target(0, "{-1}"), target(0, "{+1}{-1}")),
                  [[0], told_text("x" * 4095 + "{.1}"), told_text("{-1}" + "x" * 4095), [-6]])

    def test_the_entry_s_own_tags_do_not_count(self):
        told = ask(put("{+1}{-1}", "x" * 4094 + "{+1}{-1}"), target(0, "{-1}{.2}"), target(0, "{.1}{.2}{.3}"),
                   target(0, "{+2}{-2}"))
        self.same(told, [[0], told_text("{-1}" + "x" * 4094 + "{.2}"), [-6], told_text("x" * 4094 + "{+2}{-2}")])

    def test_as_many_tags_as_there_are(self):
        # 999 numbers, each as open and close, and the other way round; more than the interface allows in one list.
        there = "".join(f"{{+{n}}}{{-{n}}}" for n in range(1, 1000))
        back = "".join(f"{{+{n}}}{{-{n}}}" for n in range(999, 0, -1))
        told = ask(put(there, there + "x"), target(0, back), target(0, "{.1}"))
        self.same(told, [[0], told_text(back + "x"), told_text("x{.1}")])
        lefts = "".join(f"{{-{n}}}" for n in range(1, 1000))
        self.same(ask(put("", "x" * 3097), target(0, lefts), put("", "x" * 3098), target(1, lefts)),
                  [[0], told_text(lefts + "x" * 3097), [1], [-6]])

    def test_a_target_of_many_bytes(self):
        # Tags of three figures have the most bytes, then characters of four.
        lefts = "".join(f"{{-{n}}}" for n in range(100, 1000))
        text = "\U0001f600" * 2300
        self.same(ask(put("", text), target(0, lefts))[1], told_text(lefts + text))


if __name__ == "__main__":
    unittest.main()
