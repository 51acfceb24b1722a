"""Put, drop, counts, next, row: entries, their numbers, their stamps and the memories' bounds."""

import unittest

from ferrymemory.entries import Memory
from ferrymemory.refusals import TooMuch
from ferrymemory.rows import read_row
from tests.writing import ask, counts, drop, next_from, put, row, told_text


class PutTest(unittest.TestCase):
    def test_numbers_from_nought(self):
        self.assertEqual(ask(put("a", "b"), put("a", "c"), put("d", "b"), counts()), [[0], [1], [2], [0, 3, 6, 3]])

    def test_each_memory_has_its_own_numbers(self):
        told = ask(put("a", "b"), put("a", "b", m=1), put("c", "", m=1), counts(0), counts(1))
        self.assertEqual(told, [[0], [0], [1], [0, 1, 2, 1], [0, 2, 3, 2]])

    def test_the_same_four_rows_are_one_entry(self):
        for rows in (("a", "b"), ("a", "b", "p"), ("a", "b", None, "q"), ("a", "b", "p", "q"), ("", ""), ("", "", "")):
            again = [put(*rows, tick=5, person=5), put(*rows, tick=4, person=9), put(*rows, tick=5, person=5),
                     put(*rows, tick=5, person=6), put(*rows, tick=6, person=0)]
            told = ask(*again, counts(), put("new", ""))
            pieces = sum(len(text) for text in rows if text)
            self.assertEqual(told, [[0]] * 5 + [[0, 1, pieces, 1], [1]], rows)

    def test_any_other_row_makes_a_new_entry(self):
        calls = [put("a", "b", "p", "q"), put("A", "b", "p", "q"), put("a", "B", "p", "q"), put("a", "b", "P", "q"),
                 put("a", "b", "p", "Q"), put("a ", "b", "p", "q"), put("b", "a", "p", "q"), put("a", "b", "q", "p")]
        self.assertEqual(ask(*calls), [[number] for number in range(len(calls))])

    def test_the_same_units_or_form_are_not_the_same_rows(self):
        self.assertEqual(ask(put("{.1}", "{.1}"), put("{.2}", "{.2}"), put("a  b", ""), put("a b", "")),
                         [[0], [1], [2], [3]])

    def test_told_and_not_told_neighbours(self):
        calls = [put("a", "b"), put("a", "b", ""), put("a", "b", None, ""), put("a", "b", "", "")]
        self.assertEqual(ask(*calls, *calls), [[0], [1], [2], [3]] * 2)

    def test_what_is_not_told_is_not_looked_at(self):
        told = ask(put("a", "b", b"\xff", b"{", around=0), put("a", "b", b"bad{", b"\x00", around=0),
                   put("a", "b", "p", b"{", around=1), put("a", "b", b"{+1}{+1}", "q", around=2), counts(),
                   row(1, 2), row(1, 3), row(2, 2), row(2, 3))
        self.assertEqual(told, [[0], [0], [1], [2], [0, 3, 8, 3], told_text("p"), [-3], [-3], told_text("q")])

    def test_neighbours_need_not_fit(self):
        self.assertEqual(ask(put("a", "b", "{+1}", "{-2}{.3}"), counts()), [[0], [0, 1, 5, 1]])

    def test_numbers_are_given_once(self):
        told = ask(put("a", ""), put("b", ""), drop(1), put("c", ""), drop(0), drop(2), counts(), put("a", ""),
                   counts())
        self.assertEqual(told, [[0], [1], [0], [2], [0], [0], [0, 0, 0, 3], [3], [0, 1, 1, 4]])

    def test_limits_of_tick_person_around_and_memory(self):
        good = [put("a", "", tick=2 ** 40 - 1), put("a", "", person=255), put("a", "", around=3), put("a", "", m=1)]
        self.assertEqual(ask(*good), [[0], [0], [1], [0]])
        bad = {(-6,): [put("a", "", tick=2 ** 40), put("a", "", tick=2 ** 64 - 1), put("a", "", person=256),
                       put("a", "", person=4294967295)],
               (-1,): [put("a", "", around=4), put("a", "", around=4294967295), put("a", "", m=2),
                       put("a", "", m=4294967295)]}
        for refusal, calls in bad.items():
            for call in calls:
                self.assertEqual(ask(call, counts(0), counts(1)), [list(refusal), [0, 0, 0, 0], [0, 0, 0, 0]])


class BoundTest(unittest.TestCase):
    def test_256_entries(self):
        calls = [put(str(number), "") for number in range(256)]
        told = ask(*calls, put("more", ""), counts(), next_from(256), put("7", "", tick=9), drop(3), put("more", ""),
                   put("most", ""), counts())
        self.assertEqual(told[:256], [[number] for number in range(256)])
        self.assertEqual(told[256:], [[-6], [0, 256, 658, 256], [-2], [7], [0], [256], [-6], [0, 256, 661, 257]])

    def test_16384_pieces(self):
        memory = Memory()
        for code in (97, 98, 99, 100):
            memory.put([read_row([code] * 4095), read_row([code]), None, None], (0, 0))
        self.assertEqual(memory.pieces_held(), 16384)
        rows = [read_row([]), read_row([]), None, read_row([])]
        self.assertEqual(memory.put(rows, (0, 0)), 4)
        memory.drop(4)
        for place in (0, 1, 3):
            rows = [read_row([]), read_row([]), None, read_row([])]
            rows[place] = read_row([97])
            with self.assertRaises(TooMuch):
                memory.put(rows, (0, 0))
            self.assertEqual((len(memory.entries), memory.pieces_held(), memory.next_number), (4, 16384, 5))
        memory.put([read_row([97] * 4095), read_row([97]), None, None], (9, 9))
        self.assertEqual((memory.pieces_held(), memory.entry_at(0).stamp), (16384, (9, 9)))
        memory.drop(0)
        self.assertEqual(memory.put([read_row([120] * 4096), read_row([]), None, None], (0, 0)), 5)

    def test_pieces_beyond_the_bound_in_one_list(self):
        # More numbers than the interface allows, as no shorter list goes beyond the bound.
        calls = [put(letter * 4096, "") for letter in "abc"] + [put("d" * 4000, "e" * 96)]
        told = ask(*calls, counts(), put("", ""), put("x", ""), put("", "", "x"), counts(), drop(4), counts())
        self.assertEqual(told, [[0], [1], [2], [3], [0, 4, 16384, 4], [4], [-6], [-6], [0, 5, 16384, 5], [0],
                                [0, 4, 16384, 5]])

    def test_pieces_count_tags_and_characters_once_each(self):
        told = ask(put("{+1}\u20ac{{{-1}", "{+1}{-1}", "a b", "{.999}"), counts())
        self.assertEqual(told, [[0], [0, 1, 4 + 2 + 3 + 1, 1]])

    def test_4096_pieces_of_a_row(self):
        for text in ("a" * 4096, "\u00e9" * 4096, "{{" * 4096, "a" * 4095 + "{.1}"):
            target = "{.1}" if "{.1}" in text else ""
            self.assertEqual(ask(put(text, target)), [[0]])
            self.assertEqual(ask(put("a" + text, target), counts()), [[-6], [0, 0, 0, 0]])
        long = "a" * 4097
        told = ask(put("a", long), counts())
        self.assertEqual(told, [[-6], [0, 0, 0, 0]])
        self.assertEqual(ask(put("a", "", long), put("a", "", None, long), put("a", "", long, around=0)),
                         [[-6], [-6], [0]])


class DropTest(unittest.TestCase):
    def test_drop(self):
        told = ask(drop(0), put("a", "b"), drop(1), drop(0), drop(0), drop(4294967295), counts(), row(0, 0))
        self.assertEqual(told, [[-2], [0], [-2], [0], [-2], [-2], [0, 0, 0, 1], [-2]])

    def test_of_the_other_memory(self):
        self.assertEqual(ask(put("a", "b"), drop(0, m=1), drop(0, m=2), drop(9, m=2), counts()),
                         [[0], [-2], [-1], [-1], [0, 1, 2, 1]])


class CountsTest(unittest.TestCase):
    def test_counts(self):
        told = ask(counts(0), counts(1), put("abc", "de", "f", "gh", m=1), counts(1), counts(0), counts(2),
                   counts(4294967295))
        self.assertEqual(told, [[0, 0, 0, 0], [0, 0, 0, 0], [0], [0, 1, 8, 1], [0, 0, 0, 0], [-1], [-1]])


class NextTest(unittest.TestCase):
    def test_next(self):
        told = ask(next_from(0), put("a", ""), put("b", ""), put("c", ""), put("d", ""), drop(0), drop(2),
                   next_from(0), next_from(1), next_from(2), next_from(3), next_from(4), next_from(4294967295))
        self.assertEqual(told[0], [-2])
        self.assertEqual(told[7:], [[1], [1], [3], [3], [-2], [-2]])

    def test_of_the_other_memory(self):
        self.assertEqual(ask(put("a", ""), next_from(0, m=1), next_from(0, m=2), next_from(0)), [[0], [-2], [-1], [0]])


class RowTest(unittest.TestCase):
    def test_the_four_rows(self):
        rows = ["Press {+1}\u20ac{-1}", "Dr{+1}\u00fccke {{{-1}", "{-7}before", "behind{+8}"]
        told = ask(put(*rows), *[row(0, which) for which in range(4)])
        self.assertEqual(told, [[0]] + [told_text(text) for text in rows])

    def test_not_told(self):
        told = ask(put("a", "b"), row(0, 0), row(0, 1), row(0, 2), row(0, 3), put("a", "b", ""), row(1, 2), row(1, 3))
        self.assertEqual(told, [[0], [0, 1, 97], [0, 1, 98], [-3], [-3], [1], [0, 0], [-3]])

    def test_limits(self):
        told = ask(put("a", "b"), row(0, 4), row(0, 4294967295), row(0, 0, m=2), row(1, 0), row(1, 2), row(0, 0, m=1),
                   row(4294967295, 0))
        self.assertEqual(told, [[0], [-1], [-1], [-1], [-2], [-2], [-2], [-2]])


if __name__ == "__main__":
    unittest.main()
