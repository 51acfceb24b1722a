"""Has: the entries in which words and signs stand one behind another."""

import random
import unittest

from tests.test_cost import lowered, units
from tests.test_target import tags
from tests.writing import ask, ask_many, counts, drop, has, put


def words_and_signs(text):
    return [(kind, lowered(content)) for kind, content in units(text) if kind != "tag"]


def second_way(text, t):
    """Whether t's words and signs stand in the text's: what is left of some beginning begins with them."""
    rest, wanted = words_and_signs(text), words_and_signs(t)
    while rest[:len(wanted)] != wanted:
        if not rest:
            return False
        rest = rest[1:]
    return True


class HasTest(unittest.TestCase):
    def check(self, text, t, found):
        """Whether t is found in the text, as a segment and as a target."""
        numbers = [0] if found else [-2]
        bare = "".join(tags(text))
        self.assertEqual(ask(put(text, bare), has(t), has(t, side=1)), [[0], numbers, self.in_bare(t)], (text, t))
        self.assertEqual(ask(put(bare, text), has(t, side=1), has(t)), [[0], numbers, self.in_bare(t)], (text, t))
        self.assertEqual(second_way(text, t), found, (text, t))

    def in_bare(self, t):
        return [-2] if words_and_signs(t) else [0]

    def test_one_behind_another(self):
        text = "Press the red key, then wait."
        for t in ("Press", "the", "wait", ".", ",", "Press the", "the red key", "key,", "key , then", ", then wait .",
                  text, "red  key", " red", "red "):
            self.check(text, t, True)
        for t in ("red the", "Press red", "the key", "key then", "wait,", "press the red key, then wait..", "..",
                  "wait . Press", "then wait. x", "x", "!"):
            self.check(text, t, False)

    def test_rows_with_no_word_and_no_sign(self):
        for t in ("", " ", "   ", "{.1}", "{+3} {-3}", "{-5}"):
            for text in ("", " ", "a", ".", "{.1}", "{.1}a"):
                self.check(text, t, True)
        for text in ("", " ", "{.1}", "{+1} {-1}"):
            self.check(text, "a", False)
            self.check(text, ".", False)

    def test_words_only_in_part_the_same(self):
        for text, t in (("abc", "ab"), ("abc", "bc"), ("abc", "b"), ("ab", "abc"), ("ab cd", "b c"), ("ab cd", "ab c"),
                        ("ab cd", "b cd"), ("ab", "a b"), ("a b", "ab"), ("123", "12"), ("12", "012"), ("a.b", "ab"),
                        ("a1", "a"), ("a1", "1"), ("a\u00a0b", "a"), ("...", "...."), ("a", "a.")):
            self.check(text, t, False)
        for text, t in (("abc ab", "ab"), ("a.b", "a"), ("a.b", ".b"), ("12 123", "123"), ("...", "..")):
            self.check(text, t, True)

    def test_a_beginning_that_stands_there_again(self):
        self.check("a a a b", "a a b", True)
        self.check("a b a b c", "a b c", True)
        self.check("a b a b a c", "a b a c", True)
        self.check("a a b a a", "a a a", False)
        self.check("a b", "a b a", False)

    def test_upper_and_lower(self):
        upper, lower = "ABCDEFGHIJKLMNOPQRSTUVWXYZ", "abcdefghijklmnopqrstuvwxyz"
        self.check("x " + upper, lower, True)
        self.check(lower + " x", upper, True)
        self.check("aBc DeF", "AbC dEf", True)
        for one, other in (("\u00e9", "\u00c9"), ("\u00d6", "\u00f6"), ("\u0391", "\u03b1"), ("\uff21", "\uff41"),
                           ("\u00df", "ss"), ("\u212a", "k"), ("stra\u00dfE", "straSSe"), ("@", "`"), ("[", "{{"),
                           ("^", "~"), ("\u0130", "i")):
            self.check(one, other, False)
            self.check(other, one, False)
            self.check(one, one, True)
            self.check(other, other, True)
        self.check("A\u00c9b", "a\u00c9B", True)
        self.check("A\u00c9b", "a\u00e9B", False)

    def test_tags_aside_on_both_sides(self):
        for text, t in (("a {.1}b", "a b"), ("a{.1} b", "a b"), ("a {+1}b{-1} c", "b c"), ("a b", "a {.7}b"),
                        ("a {.1}b", "{-3}a b{+4}"), ("{+1}a{-1}{.2}.", "a."), ("a.", "a{.1}."), ("{.1}a", "a")):
            self.check(text, t, True)
        # A tag ends a word.
        self.check("a{.1}b", "a b", True)
        self.check("a{.1}b", "ab", False)
        self.check("ab", "a{.1}b", False)
        self.check("a b", "a{.1}b", True)

    def test_a_word_is_no_sign_and_a_brace_no_tag(self):
        self.check("{{.1}", "{{", True)
        self.check("{{.1}", "{.1}", True)
        self.check("{{.1}", ".1}", True)
        self.check("{.1}", ".1}", False)
        self.check("\u00a0", " ", True)
        self.check(" ", "\u00a0", False)

    def test_small_rows_by_a_second_way(self):
        chance = random.Random(21)
        parts = ["a ", "A ", "b ", "a", "b", ".", "!", "1 ", "{.#}", " ", "\u00e9"]
        found = 0
        for turn in range(4000):
            text, t = ("".join(chance.choices(parts, k=chance.randrange(most))) for most in (8, 4))
            # Each alone has a number of its own, so that the row is straight.
            for n in range(1, 9):
                text, t = text.replace("#", str(n), 1), t.replace("#", str(n), 1)
            told = ask(put(text, text), has(t), has(t, side=1))
            self.assertEqual(told[1:], [[0] if second_way(text, t) else [-2]] * 2, (text, t))
            found += told[1] == [0] and t != ""
        self.assertTrue(500 < found < 3500)


class NumberTest(unittest.TestCase):
    PUTS = [put("x a", "u"), put("a", "b"), put("b", "a"), put("A.", "B"), put("a", "", m=1)]

    def test_from_below_at_and_above_a_number(self):
        told = ask(*self.PUTS, *[has("a", start) for start in (0, 1, 2, 3, 4, 4294967295)])
        self.assertEqual(told[5:], [[0], [1], [3], [3], [-2], [-2]])
        told = ask(*self.PUTS, *[has("b", start) for start in (0, 1, 2, 3)])
        self.assertEqual(told[5:], [[2], [2], [2], [-2]])

    def test_both_sides(self):
        told = ask(*self.PUTS, *[has("b", start, side=1) for start in range(5)], has("a", side=1), has("x", side=1),
                   has("u", side=0), has("u", side=1))
        self.assertEqual(told[5:], [[1], [1], [3], [3], [-2], [2], [-2], [-2], [0]])

    def test_neighbours_are_not_looked_at(self):
        self.assertEqual(ask(put("s", "t", "p", "q"), has("p"), has("q", side=1), has("q"), has("p", side=1)),
                         [[0], [-2], [-2], [-2], [-2]])

    def test_after_drops(self):
        told = ask(*self.PUTS, drop(0), has("a"), drop(1), has("a"), drop(3), has("a"), has(""), drop(2), has(""))
        self.assertEqual(told[5:], [[0], [1], [0], [3], [0], [-2], [2], [0], [-2]])

    def test_of_each_memory(self):
        told = ask(*self.PUTS, has("a", m=1), has("x", m=1), has("a", 1, m=1), counts(0), counts(1))
        self.assertEqual(told[5:], [[0], [-2], [-2], [0, 4, 11, 4], [0, 1, 1, 1]])

    def test_an_empty_memory(self):
        self.assertEqual(ask_many([has(""), has("a"), has("", side=1, m=1)]), [[-2], [-2], [-2]])


if __name__ == "__main__":
    unittest.main()
