"""Best: which entries are matches, their kinds, how near they are, and their order."""

import functools
import itertools
import random
import re
import unittest

from tests.test_cost import WEIGHT, least as least_cost, random_row, units
from tests.writing import ask, best, counts, drop, put, told_matches

TAG = re.compile(r"(\{\{)|\{([+.-])(\d+)\}")


def matches(puts, question):
    """The matches that best tells once these are put in."""
    return told_matches(ask(*puts, question)[-1])


def form(text):
    """A second way to a row's form, by its text."""
    names = []

    def renamed(found):
        if found.group(1):
            return found.group()
        if found.group(3) not in names:
            names.append(found.group(3))
        return f"{{{found.group(2)}{names.index(found.group(3)) + 1}}}"

    return TAG.sub(renamed, text)


def second_kind(entry, s, p, q):
    """The kind of an entry (s, t, p, q, tick, person), as the words tell it."""
    if entry[0] == s:
        told = None not in (p, q, entry[2], entry[3])
        return 4 if told and entry[2] == p and entry[3] == q else 3
    if form(entry[0]) == form(s):
        return 2
    return 1 if units(entry[0]) == units(s) else 0


def before(one, other):
    """-1 if the one match comes first; a match is number, kind, near, cost, tick, person."""
    for place, greater_first in ((1, True), (2, True), (3, False), (4, True), (5, True), (0, False)):
        if one[place] != other[place]:
            return -1 if (one[place] > other[place]) == greater_first else 1
    raise AssertionError("two entries have one number")


def second_way(entries, s, p, q, least, most):
    found = []
    for number, entry in entries.items():
        ours, theirs = units(entry[0]), units(s)
        weights = sum(WEIGHT[unit[0]] for unit in ours + theirs)
        cost = least_cost(ours, theirs)
        near = 1000 * (weights - cost) // weights if weights else 1000
        if near >= least:
            found.append((number, second_kind(entry, s, p, q), near, cost, entry[4], entry[5]))
    return [match[:4] for match in sorted(found, key=functools.cmp_to_key(before))[:most]]


class KindTest(unittest.TestCase):
    def kind(self, entry, asked):
        """The kind of the one entry for what is asked, each segment, before, behind."""
        found = matches([put(entry[0], entry[0], *entry[1:])], best(*asked))
        self.assertEqual([match[0] for match in found], [0])
        self.assertEqual(found[0][1] > 0, found[0][2:] == (1000, 0))
        return found[0][1]

    def test_both_neighbours_told_here_and_there_and_the_same(self):
        self.assertEqual(self.kind(("s", "p", "q"), ("s", "p", "q")), 4)
        self.assertEqual(self.kind(("s", "", ""), ("s", "", "")), 4)
        self.assertEqual(self.kind(("s", "p", "p"), ("s", "p", "p")), 4)
        self.assertEqual(self.kind(("", "", ""), ("", "", "")), 4)
        self.assertEqual(self.kind(("{.1}", "{+1}", "{-1}"), ("{.1}", "{+1}", "{-1}")), 4)

    def test_a_neighbour_that_is_not_told(self):
        told = list(itertools.product((None, "p"), (None, "q")))
        for here, there in itertools.product(told, told):
            kind = 4 if None not in here + there else 3
            self.assertEqual(self.kind(("s", *here), ("s", *there)), kind, (here, there))
        self.assertEqual(self.kind(("s", "", None), ("s", "", "")), 3)
        self.assertEqual(self.kind(("s", None, None), ("s", "", "")), 3)

    def test_a_neighbour_that_is_told_but_another(self):
        for there in (("P", "q"), ("p", "Q"), ("q", "p"), ("p", ""), ("", "q"), ("p ", "q"), ("p", "{.1}q")):
            self.assertEqual(self.kind(("s", "p", "q"), ("s", *there)), 3, there)
        self.assertEqual(self.kind(("s", "{.1}", "q"), ("s", "{.2}", "q")), 3)

    def test_what_is_not_told_is_not_looked_at(self):
        calls = [put("s", "", "p", "q"), best("s", b"{", b"\xff", around=0), best("s", "p", b"{", around=1),
                 best("s", b"{", "q", around=2), best("s", "p", "q", around=1), best("s", "p", "q", around=3)]
        self.assertEqual(ask(*calls)[1:], [[1, 0, 3, 1000, 0]] * 4 + [[1, 0, 4, 1000, 0]])

    def test_the_same_neighbours_make_no_kind_of_another_segment(self):
        self.assertEqual(self.kind(("a", "p", "q"), ("b", "p", "q")), 0)
        self.assertEqual(self.kind(("a b", "p", "q"), ("a  b", "p", "q")), 1)
        self.assertEqual(self.kind(("{.1}", "p", "q"), ("{.2}", "p", "q")), 2)

    def test_the_same_pieces_one_form_the_same_units(self):
        cases = [
            ("a {+1}b{-1}", "a {+1}b{-1}", 3), ("a {+1}b{-1}", "a {+2}b{-2}", 2), ("{.1}{.2}", "{.2}{.1}", 2),
            ("{-1}{+2}{.3}", "{-3}{+1}{.2}", 2), ("{-9}{{", "{-1}{{", 2), ("a {+1}b{-1}", "a  {+1}b{-1}", 1),
            ("a {+1}b{-1}", "a {+2}b{-2} ", 1), ("a {+1}b{-1}", "a{+7}b{-7}", 1), ("a.b", "a . b", 1), ("", " ", 1),
            ("  ", " ", 1), ("a b", "ab", 0), ("a b", "A b", 0), ("{.1}", "{+1}", 0), ("{.1}{.2}", "{.1}", 0),
            ("{.1}a", "a{.1}", 0), ("12", "012", 0), ("", "{.1}", 0), ("{+1}{+2}{-2}{-1}", "{+1}{-1}{+2}{-2}", 0),
            ("{+1}{+2}", "{+2}{+1}", 2), ("a\u00a0b", "a b", 0), ("\u00e9", "\u00c9", 0),
        ]
        for one, other, kind in cases:
            self.assertEqual(self.kind((one, None, None), (other, None, None)), kind, (one, other))
            self.assertEqual(self.kind((other, None, None), (one, None, None)), kind, (other, one))

    def test_a_thousand_and_kinds_above_nought_just_of_the_same_units(self):
        chance = random.Random(11)
        rows = [random_row(chance, 3) for turn in range(60)]
        for s in rows:
            segments = sorted(set(rows))
            found = matches([put(text, text) for text in segments], best(s))
            self.assertEqual(len(found), len(segments))
            for number, kind, near, cost in found:
                same = units(segments[number]) == units(s)
                self.assertEqual((kind > 0, near == 1000, cost == 0), (same, same, same), (segments[number], s))


class OrderTest(unittest.TestCase):
    def order(self, puts, question):
        return [match[0] for match in matches(puts, question)]

    def test_the_greater_kind_first(self):
        puts = [put("x", "", tick=9), put("{.1} a", "{.1}", "p", "q", tick=8), put("{.2}a", "{.2}", "p", "q", tick=7),
                put("{.1}a", "{.1}", "p", tick=6), put("{.1}a", "{.1}", "p", "q", tick=5)]
        self.assertEqual(matches(puts, best("{.1}a", "p", "q"))[:4],
                         [(4, 4, 1000, 0), (3, 3, 1000, 0), (2, 2, 1000, 0), (1, 1, 1000, 0)])
        self.assertEqual(self.order(puts, best("{.1}a", "p", "q")), [4, 3, 2, 1, 0])
        # Of the same kind, the later stamp of the one without a neighbour comes first.
        self.assertEqual(self.order(puts, best("{.1}a", "p")), [3, 4, 2, 1, 0])

    def test_then_the_nearer(self):
        # The nearer one costs more, and is neither the later nor the first that was put in.
        puts = [put(".", "", tick=9), put("a b c d", "")]
        self.assertEqual(matches(puts, best("a")), [(1, 0, 400, 12), (0, 0, 0, 6)])

    def test_then_that_of_less_cost(self):
        puts = [put("a b c", "", tick=9, person=9), put("b", "")]
        self.assertEqual(matches(puts, best("a")), [(1, 0, 500, 4), (0, 0, 500, 8)])
        puts = [put("1", "", tick=9), put(".", "")]
        self.assertEqual(matches(puts, best("a")), [(1, 0, 0, 6), (0, 0, 0, 8)])

    def test_then_the_later_tick_then_the_later_person(self):
        puts = [put("b", "", tick=4, person=255), put("c", "", tick=5, person=1), put("d", "", tick=5, person=2),
                put("e", "", tick=5, person=0), put("f", "", tick=2 ** 40 - 1, person=0)]
        self.assertEqual(self.order(puts, best("a")), [4, 2, 1, 3, 0])
        puts = [put("s", letter, tick=tick, person=person) for letter, tick, person in
                (("b", 4, 255), ("c", 5, 1), ("d", 5, 2), ("e", 5, 0))]
        self.assertEqual(self.order(puts, best("s")), [2, 1, 3, 0])

    def test_then_the_lesser_number(self):
        puts = [put("s", str(number), tick=3, person=3) for number in range(12)]
        self.assertEqual(self.order(puts, best("s")), list(range(12)))
        puts = [put(str(number), "", tick=3, person=3) for number in range(12)]
        self.assertEqual(self.order(puts, best("77")), list(range(12)))

    def test_a_stamp_that_became_later_counts(self):
        puts = [put("s", "b", tick=1), put("s", "c", tick=2), put("s", "b", tick=3)]
        self.assertEqual(self.order(puts, best("s")), [0, 1])


class BoundTest(unittest.TestCase):
    def test_least(self):
        puts = [put("a b", ""), put("a", ""), put("b", ""), put("1", "")]
        nears = {0: 666, 1: 1000, 2: 500, 3: 0}
        for least in (0, 1, 499, 500, 501, 665, 666, 667, 999, 1000):
            found = matches(puts, best("a", least=least))
            self.assertEqual({match[0]: match[2] for match in found},
                             {number: near for number, near in nears.items() if near >= least}, least)

    def test_least_is_held_against_what_is_rounded_down(self):
        # 8 of 12 is 666 and two thirds.
        self.assertEqual(ask(put("a b", ""), best("a", least=666), best("a", least=667)),
                         [[0], [1, 0, 0, 666, 4], [0]])
        row = "a " * 999
        self.assertEqual(ask(put(row + "b", ""), best(row + "B", least=999), best(row + "B", least=1000)),
                         [[0], [1, 0, 0, 999, 1], [0]])

    def test_most(self):
        puts = [put("b", ""), put("a", ""), put("c", ""), put("a b", "")]
        every = [(1, 3, 1000, 0), (3, 0, 666, 4), (0, 0, 500, 4), (2, 0, 500, 4)]
        for most in (1, 2, 3, 4, 5, 255, 256):
            self.assertEqual(matches(puts, best("a", most=most)), every[:most])
        self.assertEqual(matches(puts, best("a", most=2, least=600)), every[:2])
        self.assertEqual(matches(puts, best("a", most=3, least=600)), every[:2])
        self.assertEqual(matches(puts, best("a", most=1, least=600)), every[:1])

    def test_256_matches(self):
        puts = [put("a", str(number), tick=number % 16, person=number // 16) for number in range(256)]
        wanted = sorted(range(256), key=lambda number: (number % 16, number // 16), reverse=True)
        self.assertEqual(matches(puts, best("a")), [(number, 3, 1000, 0) for number in wanted])
        self.assertEqual(matches(puts, best("a", most=255)), [(number, 3, 1000, 0) for number in wanted[:255]])

    def test_no_entry_and_no_match(self):
        self.assertEqual(ask(best("a"), put("b", ""), best("a", least=501), best("b", m=1), drop(0), best("b")),
                         [[0], [0], [0], [0], [0], [0]])

    def test_rows_without_units(self):
        self.assertEqual(matches([put("", ""), put("  ", ""), put("a", ""), put("{.1}", "{.1}")], best("")),
                         [(0, 3, 1000, 0), (1, 1, 1000, 0), (3, 0, 0, 1), (2, 0, 0, 4)])

    def test_of_each_memory(self):
        told = ask(put("a", ""), put("b", "", m=1), put("c", "", m=1), best("a", least=1000),
                   best("c", m=1, least=1000))
        self.assertEqual(told[3:], [[1, 0, 3, 1000, 0], [1, 1, 3, 1000, 0]])

    def test_it_changes_nothing(self):
        told = ask(put("a", "b", "p"), counts(), best("a", "p"), best("a", "p"), counts())
        self.assertEqual(told[1], told[4])
        self.assertEqual(told[2], told[3])


class SecondWayTest(unittest.TestCase):
    def test_small_memories(self):
        chance = random.Random(12)
        for turn in range(150):
            rows = [random_row(chance, 3) for number in range(4)]
            rows += [row.replace(" ", "  ") for row in rows] + [row + " " for row in rows]
            puts, entries = [], {}
            for number in range(chance.randrange(12)):
                s = chance.choice(rows)
                p, q = (chance.choice((None, "", "p", "q")) for neighbour in range(2))
                tick, person = chance.randrange(3), chance.randrange(3)
                # Each has a target of its own, so that each is new.
                entries[number] = (s, s + str(number), p, q, tick, person)
                puts.append(put(*entries[number][:4], tick=tick, person=person))
            for number in list(entries):
                if chance.randrange(5) == 0:
                    puts.append(drop(number))
                    entries.pop(number)
            for question in range(6):
                asked = [chance.choice(rows)] + [chance.choice((None, "", "p", "q")) for neighbour in range(2)]
                least = chance.choice((0, 0, 300, 500, 750, 900, 1000))
                most = chance.choice((1, 2, 5, 12, 256))
                self.assertEqual(matches(puts, best(*asked, least=least, most=most)),
                                 second_way(entries, *asked, least, most), (entries, asked, least, most))


if __name__ == "__main__":
    unittest.main()
