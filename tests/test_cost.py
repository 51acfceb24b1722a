"""Units, their weights, the cost of two rows, and how near they are."""

import itertools
import random
import re
import unittest

from tests.writing import ask, ask_many, cost

SIGN = "[!-/:-@\\[-`{-~\u00a1-\u00bf\u00d7\u00f7\u2010-\u206f\u3000-\u303f]"
PIECE = re.compile(r"\{([+.-])(\d+)\}|(\{\{|" + SIGN + ")|( )")
WEIGHT = {"figures": 4, "word": 4, "sign": 2, "tag": 1}


def units(text):
    """A second way to a row's units, by a pattern that cuts the text at all that is no word."""
    found = []
    names = []
    place = 0
    for cut in PIECE.finditer(text):
        found += words(text[place:cut.start()])
        place = cut.end()
        if cut.group(2):
            if cut.group(2) not in names:
                names.append(cut.group(2))
            found.append(("tag", cut.group(1) + str(names.index(cut.group(2)))))
        elif cut.group(3):
            found.append(("sign", cut.group(3)))
    return found + words(text[place:])


def words(text):
    if not text:
        return []
    return [("figures" if re.fullmatch("[0-9]+", text) else "word", text)]


def lowered(text):
    return re.sub("[A-Z]", lambda found: found.group().lower(), text)


def change(one, other):
    """What it costs to put one unit in the other's place; None where it can't be."""
    if one == other:
        return 0
    if one[0] != other[0]:
        return None
    if one[0] == "word":
        return 1 if lowered(one[1]) == lowered(other[1]) else 4
    return {"figures": 1, "sign": 2, "tag": 1}[one[0]]


def least(ours, theirs):
    """A second way to the cost: of all ways to set some units beside some of the other's, in order, the cheapest."""
    weights = sum(WEIGHT[unit[0]] for unit in ours + theirs)
    costs = []
    for size in range(min(len(ours), len(theirs)) + 1):
        for some in itertools.combinations(ours, size):
            for others in itertools.combinations(theirs, size):
                changes = [change(one, other) for one, other in zip(some, others)]
                if None not in changes:
                    kept = sum(WEIGHT[unit[0]] for unit in some + others)
                    costs.append(weights - kept + sum(changes))
    return min(costs)


def expected(a, b):
    ours = units(a)
    theirs = units(b)
    weight = sum(WEIGHT[unit[0]] for unit in ours)
    other = sum(WEIGHT[unit[0]] for unit in theirs)
    found = least(ours, theirs)
    near = 1000 if weight + other == 0 else 1000 * (weight + other - found) // (weight + other)
    return [found, near, weight, other]


def random_row(chance, most):
    parts = ["a", "A", "b", "ab", "aB", "AB", "a1", "7", "12", "012", ".", "!", "\u2014", "{{", " ", " ", "\u00e9",
             "\u00c9", "\u4e2d"]
    row = [chance.choice(parts) for turn in range(chance.randrange(most + 1))]
    numbers = chance.sample(range(1, 1000), 2)
    for text in chance.choice(([], [], ["{.#}"], ["{+#}"], ["{-#}"], ["{+#}", "{-#}"])):
        row.insert(chance.randrange(len(row) + 1) if text != "{-#}" else len(row), text.replace("#", str(numbers[0])))
    if chance.randrange(3) == 0:
        row.insert(chance.randrange(len(row) + 1), "{." + str(numbers[1]) + "}")
    return "".join(row)


class UnitTest(unittest.TestCase):
    def weight(self, text):
        return ask(cost(text, ""))[0][2]

    def test_the_weight_of_characters_at_both_ends_of_each_range(self):
        signs = [(0x21, 0x2F), (0x3A, 0x40), (0x5B, 0x60), (0x7B, 0x7E), (0xA1, 0xBF), (0xD7, 0xD7), (0xF7, 0xF7),
                 (0x2010, 0x206F), (0x3000, 0x303F)]
        for first, last in signs:
            for code in range(first, last + 1):
                text = "{{" if code == 0x7B else chr(code)
                self.assertEqual(self.weight(text), 2, hex(code))
        for code in (0x30, 0x39, 0x41, 0x5A, 0x61, 0x7A, 0xA0, 0xC0, 0xD6, 0xD8, 0xF6, 0xF8, 0x200F, 0x2070, 0x2FFF,
                     0x3040, 0x10FFFD):
            self.assertEqual(self.weight(chr(code)), 4, hex(code))
        self.assertEqual(self.weight(" "), 0)

    def test_words_end_at_blanks_signs_and_tags(self):
        cases = {"": 0, "   ": 0, "abc": 4, "ab c": 8, " a  b ": 8, "a-b": 10, "...": 6, "a{.1}b": 9, "{.1}": 1,
                 "{+1}{-1}": 2, "12": 4, "1.2": 10, "a\u00a0b": 4, "{{": 2, "a{{b": 10, "}": 2}
        for text, weight in cases.items():
            self.assertEqual(self.weight(text), weight, text)


class CostTest(unittest.TestCase):
    def test_plain_answers(self):
        cases = [
            ("", "", [0, 1000, 0, 0]), (" ", "", [0, 1000, 0, 0]), ("a", "", [4, 0, 4, 0]),
            ("Press the key.", "Press the key.", [0, 1000, 14, 14]),
            ("Press the key.", "press the  key .", [1, 964, 14, 14]),
            ("Press the key.", "Press a key!", [6, 785, 14, 14]),
            ("12", "13", [1, 875, 4, 4]), ("12", "012", [1, 875, 4, 4]), ("12", "ab", [8, 0, 4, 4]),
            ("12", "1a", [8, 0, 4, 4]), ("ab", "cd", [4, 500, 4, 4]), ("aB", "Ab", [1, 875, 4, 4]),
            ("\u00e9", "\u00c9", [4, 500, 4, 4]), (".", "!", [2, 500, 2, 2]), (".", "a", [6, 0, 2, 4]),
            ("{.1}", "{.7}", [0, 1000, 1, 1]), ("{.1}", "{+1}", [1, 500, 1, 1]), ("{.1}", ".", [3, 0, 1, 2]),
            ("{.1}", "a", [5, 0, 1, 4]), ("{.5}{.2}", "{.2}{.5}", [0, 1000, 2, 2]),
            ("{+9}a{-9}", "{+1}a{-1}", [0, 1000, 6, 6]), ("{.1}{.2}{.3}", "{.2}{.3}", [1, 800, 3, 2]),
            ("@", "`", [2, 500, 2, 2]), ("[", "{{", [2, 500, 2, 2]),
        ]
        for a, b, answer in cases:
            self.assertEqual(ask(cost(a, b)), [answer], (a, b))

    def test_digits_at_both_ends_and_no_others(self):
        for digit in "0123456789":
            self.assertEqual(ask(cost(digit, "55"))[0][0], 1, digit)
            self.assertEqual(ask(cost(digit, "five"))[0][0], 8, digit)
        for other in "Aaz\u0661\uff11\u00e9":
            self.assertEqual(ask(cost(other, "55"))[0][0], 8, other)
            self.assertEqual(ask(cost(other, "five"))[0][0], 4, other)

    def test_letters_at_both_ends_and_no_others(self):
        for letter in "abcdefghijklmnopqrstuvwxyz":
            self.assertEqual(ask(cost("0" + letter, "0" + letter.upper()))[0][0], 1, letter)
        for one, other in (("\u00c0", "\u00e0"), ("\u00d6", "\u00f6"), ("\u0391", "\u03b1"), ("\uff21", "\uff41"),
                           ("ab", "ac"), ("a", "aa"), ("k", "\u212a"), ("ss", "\u00df"), ("0a", "PA")):
            self.assertEqual(ask(cost(one, other))[0][0], 4, (one, other))

    def test_the_least_of_all_ways(self):
        chance = random.Random(2)
        pairs = [(random_row(chance, 6), random_row(chance, 6)) for turn in range(3000)]
        for pair, answer in zip(pairs, ask_many([cost(a, b) for a, b in pairs])):
            self.assertEqual(answer, expected(pair[0], pair[1]), pair)

    def test_all_rows_of_few_units(self):
        parts = ["a ", "A ", "b ", "1 ", "2 ", ".", "!", "{.1}"]
        rows = ["".join(row) for size in range(3) for row in itertools.product(parts, repeat=size)]
        pairs = [(a, b) for a in rows for b in rows if a.count("{") < 2 and b.count("{") < 2]
        for pair, answer in zip(pairs, ask_many([cost(a, b) for a, b in pairs])):
            self.assertEqual(answer, expected(pair[0], pair[1]), pair)

    def test_the_same_either_way_round(self):
        chance = random.Random(3)
        pairs = [(random_row(chance, 12), random_row(chance, 12)) for turn in range(1000)]
        there = ask_many([cost(a, b) for a, b in pairs])
        back = ask_many([cost(b, a) for a, b in pairs])
        for one, other in zip(there, back):
            self.assertEqual(one, [other[0], other[1], other[3], other[2]])

    def test_by_way_of_a_third_row_never_less(self):
        chance = random.Random(4)
        rows = [random_row(chance, 5) for turn in range(40)]
        told = iter(ask_many([cost(a, b) for a in rows for b in rows]))
        costs = {(a, b): next(told)[0] for a in range(40) for b in range(40)}
        for a, b, c in itertools.product(range(40), repeat=3):
            self.assertLessEqual(costs[a, c], costs[a, b] + costs[b, c], (rows[a], rows[b], rows[c]))

    def test_nothing_and_a_thousand_just_of_the_same_units(self):
        chance = random.Random(5)
        rows = [random_row(chance, 3) for turn in range(120)]
        pairs = list(itertools.product(rows, rows))
        same_pairs = 0
        for pair, answer in zip(pairs, ask_many([cost(a, b) for a, b in pairs])):
            same = units(pair[0]) == units(pair[1])
            same_pairs += same and pair[0] != pair[1]
            self.assertEqual((answer[0] == 0, answer[1] == 1000), (same, same), pair)
        self.assertGreater(same_pairs, 10)

    def test_near_is_rounded_down_and_below_a_thousand(self):
        # 1 of 8000 would be 1000 if it were rounded to the nearest.
        row = "a " * 999
        self.assertEqual(ask(cost(row + "b", row + "B")), [[1, 999, 4000, 4000]])

    def test_refused_rows(self):
        self.assertEqual(ask(cost("\n", "\n")), [[-5, 11, 0]])
        self.assertEqual(ask(cost("ok", "ok{")), [[-5, 21, 3]])
        self.assertEqual(ask(cost("{.1}{.1}", "{")), [[-5, 12, 4]])
        self.assertEqual(ask(cost("ok", "{.1}{.1}")), [[-5, 22, 4]])


if __name__ == "__main__":
    unittest.main()
