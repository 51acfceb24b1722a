"""Stamp and merge: what put, put again and merge leave."""

import unittest

from ferrymemory.entries import Memory
from ferrymemory.refusals import TooMuch
from ferrymemory.rows import read_row
from tests.writing import ask, best, counts, drop, has, merge, next_from, put, row, stamp, target, told_text

STAMPS = [(5, 5), (5, 5), (4, 255), (5, 4), (5, 6), (6, 0), (0, 0), (2 ** 40 - 1, 255)]


def stamped(number, when, m=0):
    return put(f"s{number}", f"t{number}", tick=when[0], person=when[1], m=m)


class StampTest(unittest.TestCase):
    def test_what_put_leaves(self):
        for tick, person in STAMPS:
            self.assertEqual(ask(put("a", "b", tick=tick, person=person), stamp(0)), [[0], [0, tick, person]])

    def test_what_put_again_leaves(self):
        for first in STAMPS:
            for second in STAMPS:
                told = ask(stamped(0, first), stamped(1, (7, 7)), stamped(0, second), stamp(0), stamp(1), counts())
                self.assertEqual(told, [[0], [1], [0], [0, *max(first, second)], [0, 7, 7], [0, 2, 8, 2]])

    def test_put_again_more_than_once(self):
        told = ask(stamped(0, (5, 5)), stamped(0, (6, 0)), stamped(0, (5, 255)), stamp(0), stamped(0, (6, 1)), stamp(0))
        self.assertEqual(told[3:], [[0, 6, 0], [0], [0, 6, 1]])

    def test_what_merge_leaves(self):
        for here in STAMPS:
            for there in STAMPS:
                told = ask(stamped(0, here), stamped(9, (1, 1), m=1), stamped(0, there, m=1), merge(0), stamp(0),
                           stamp(1), stamp(0, m=1), stamp(1, m=1))
                self.assertEqual(told[3:], [[1], [0, *max(here, there)], [0, 1, 1], [0, 1, 1], [0, *there]])

    def test_dropped_and_put_in_anew(self):
        self.assertEqual(ask(stamped(0, (9, 9)), drop(0), stamped(0, (1, 1)), stamp(0), stamp(1)),
                         [[0], [0], [1], [-2], [0, 1, 1]])

    def test_no_such_entry_or_memory(self):
        told = ask(stamp(0), stamped(0, (3, 4)), stamp(0), stamp(1), stamp(0, m=1), stamp(4294967295), stamp(0, m=2),
                   stamp(7, m=4294967295))
        self.assertEqual(told, [[-2], [0], [0, 3, 4], [-2], [-2], [-2], [-1], [-1]])

    def test_a_refused_put_leaves_it(self):
        told = ask(stamped(0, (3, 4)), put("s0", "t0", tick=2 ** 40), put("s0", "t0", tick=9, person=256),
                   put("s0", "t0", tick=9, m=2), stamp(0))
        self.assertEqual(told, [[0], [-6], [-6], [-1], [0, 3, 4]])


class MergeTest(unittest.TestCase):
    def test_empty_memories(self):
        told = ask(merge(0), merge(1), counts(0), counts(1), put("a", "b"), merge(0), counts(0), counts(1))
        self.assertEqual(told, [[0], [0], [0, 0, 0, 0], [0, 0, 0, 0], [0], [0], [0, 1, 2, 1], [0, 0, 0, 0]])

    def test_into_each_of_both(self):
        for m in (0, 1):
            told = ask(put("a", "b", m=1 - m), put("c", "d", m=1 - m), merge(m), counts(m), counts(1 - m), row(1, 0, m),
                       row(1, 0, 1 - m))
            self.assertEqual(told[2:], [[2], [0, 2, 4, 2], [0, 2, 4, 2], told_text("c"), told_text("c")])

    def test_all_rows_are_put_in_as_they_are(self):
        entries = [("a", "b"), ("a", "b", ""), ("a", "b", None, "q"), ("a{+1}", "b{+1}", "{.1}p", "q\u20ac{{")]
        told = ask(*[put(*rows, m=1, tick=place) for place, rows in enumerate(entries)], merge(0),
                   *[row(number, which) for number in range(4) for which in range(4)],
                   *[stamp(number) for number in range(4)])
        self.assertEqual(told[4], [4])
        rows = [list(rows) + [None] * (4 - len(rows)) for rows in entries]
        self.assertEqual(told[5:21], [[-3] if text is None else told_text(text) for four in rows for text in four])
        self.assertEqual(told[21:], [[0, tick, 0] for tick in range(4)])

    def test_entries_that_are_there_already(self):
        told = ask(put("a", "b"), put("c", "d"), put("e", "f", m=1), put("c", "d", m=1), put("a", "b", "", m=1),
                   merge(0), counts(0), row(2, 0), row(3, 2), counts(1), merge(1), counts(1), row(3, 0, m=1),
                   row(3, 2, m=1))
        self.assertEqual(told[5:], [[2], [0, 4, 8, 4], told_text("e"), told_text(""), [0, 3, 6, 3], [1], [0, 4, 8, 4],
                                    told_text("a"), [-3]])

    def test_by_their_numbers(self):
        # The other's numbers have gaps, and its later stamps do not come first.
        puts = [put(letter, "", tick=9 - place, m=1) for place, letter in enumerate("dacbe")]
        told = ask(*puts, drop(0, m=1), drop(3, m=1), put("d", "", m=1), merge(0), *[row(n, 0) for n in range(5)])
        self.assertEqual(told[8:], [[4], told_text("a"), told_text("c"), told_text("e"), told_text("d"), [-2]])

    def test_numbers_after_drops(self):
        told = ask(put("a", ""), put("b", ""), put("c", ""), drop(2), drop(0), put("x", "", m=1), put("b", "", m=1),
                   put("a", "", m=1), merge(0), counts(), *[next_from(n) for n in (0, 2, 4, 5)], row(3, 0), row(4, 0),
                   drop(4), merge(0), counts(), next_from(4))
        self.assertEqual(told[8:], [[2], [0, 3, 3, 5], [1], [3], [4], [-2], told_text("x"), told_text("a"), [0], [1],
                                    [0, 3, 3, 6], [5]])

    def test_merged_again_nothing_is_new(self):
        questions = [counts(), next_from(0), next_from(2), stamp(0), stamp(1), stamp(2), best("s1"), has("t2", side=1)]
        told = ask(stamped(0, (1, 1)), stamped(1, (3, 3), m=1), stamped(2, (2, 2), m=1), merge(0), *questions, merge(0),
                   *questions, merge(1), merge(0), merge(1), *questions)
        self.assertEqual(told[3], [2])
        self.assertEqual(told[12], [0])
        self.assertEqual(told[21:24], [[1], [0], [0]])
        self.assertEqual(told[13:21], told[4:12])
        self.assertEqual(told[24:], told[4:12])

    def test_the_other_memory_stays_as_it_was(self):
        questions = [counts(1), next_from(0, m=1), next_from(1, m=1), row(1, 0, m=1), row(1, 1, m=1), row(1, 2, m=1),
                     row(1, 3, m=1), stamp(1, m=1), stamp(2, m=1), best("s", "p", m=1), target(1, "{.1}", m=1),
                     has("s", m=1)]
        before = [put("x", "", m=1), put("s", "t", "p", m=1, tick=3), put("y", "", m=1, tick=1), drop(0, m=1),
                  put("s", "t", "p", tick=8), put("z", "")]
        # What happens to the one afterwards does not touch the other either.
        behind = [put("y", "", tick=9), drop(0), put("s", "t", "p", tick=7), drop(2), merge(0), drop(1)]
        unasked = ask(*before, *questions)[len(before):]
        told = ask(*before, merge(0), *questions, *behind, *questions)[len(before):]
        self.assertEqual(told[0], [1])
        self.assertEqual(told[1:1 + len(questions)], unasked)
        self.assertEqual(told[-len(questions):], unasked)

    def test_no_such_memory(self):
        told = ask(put("a", "", m=1), merge(2), merge(4294967295), counts(0), counts(1))
        self.assertEqual(told, [[0], [-1], [-1], [0, 0, 0, 0], [0, 1, 1, 1]])


class BoundTest(unittest.TestCase):
    def puts(self, here, there, both):
        """So many entries here alone, there alone, and in both; there their stamps are later."""
        calls = [put(f"h{n}", "") for n in range(here)] + [put(f"t{n}", "", tick=1, m=1) for n in range(there)]
        for n in range(both):
            calls += [put(f"b{n}", ""), put(f"b{n}", "", tick=1, m=1)]
        return calls

    def test_256_entries_in_the_end(self):
        calls = self.puts(120, 100, 36)
        told = ask(*calls, merge(0), counts(0), merge(0), merge(1), counts(1))[len(calls):]
        self.assertEqual([told[0], told[1][:2], told[2], told[3], told[4][:2]], [[100], [0, 256], [0], [120], [0, 256]])

    def test_257_entries_in_the_end(self):
        calls = self.puts(121, 100, 36)
        questions = [counts(0), counts(1), stamp(0), stamp(121), stamp(156), next_from(157), next_from(136, m=1),
                     stamp(100, m=1), best("b3", most=3), best("t3", m=1, most=3)]
        told = ask(*calls, *questions, merge(0), *questions, merge(1), *questions)[len(calls):]
        size = len(questions)
        self.assertEqual(told[3], [0, 0, 0])
        self.assertEqual((told[size], told[2 * size + 1]), ([-6], [-6]))
        self.assertEqual(told[:size], told[size + 1:2 * size + 1])
        self.assertEqual(told[:size], told[2 * size + 2:])

    def test_it_fits_once_one_is_dropped(self):
        calls = self.puts(121, 100, 36)
        told = ask(*calls, merge(0), drop(5), merge(0), counts(0), next_from(157), stamp(121))[len(calls):]
        self.assertEqual(told[:3] + [told[3][:2]] + told[4:], [[-6], [0], [100], [0, 256], [157], [0, 1, 0]])

    def test_a_full_memory_takes_later_stamps(self):
        calls = [put(str(n), "") for n in range(256)]
        told = ask(*calls, put("7", "", tick=4, m=1), merge(0), stamp(7), put("x", "", m=1), merge(0), merge(1))[256:]
        self.assertEqual(told, [[0], [0], [0, 4, 0], [1], [-6], [-6]])

    def memory(self, *texts):
        memory = Memory()
        for place, text in enumerate(texts):
            memory.put([read_row(text), read_row([]), None, None], (place, 0))
        return memory

    def test_16384_pieces_in_the_end(self):
        # Asked of the memories themselves, as no list that the interface allows has so many.
        long = [[code] * 4000 for code in (97, 98, 99, 100)]
        here = self.memory(long[0], long[1])
        self.assertEqual(here.merge(self.memory(long[1], long[2], long[3], [101] * 384)), 3)
        self.assertEqual((here.pieces_held(), here.next_number), (16384, 5))
        here = self.memory(long[0], long[1])
        there = self.memory([97], long[1], long[2], long[3], [101] * 384)
        with self.assertRaises(TooMuch):
            here.merge(there)
        self.assertEqual((here.pieces_held(), here.next_number, here.entry_at(1).stamp), (8000, 2, (1, 0)))
        self.assertEqual((there.pieces_held(), there.next_number), (12385, 5))

    def test_pieces_beyond_the_bound_in_one_list(self):
        # More numbers than the interface allows.
        calls = [put("a" * 4096, "b" * 4096), put("c" * 4096, "d" * 4095, m=1), put("e", "", m=1)]
        told = ask(*calls, merge(0), counts(0), put("f", "", m=1), merge(1), merge(0), counts(1))
        self.assertEqual(told[3:], [[2], [0, 3, 16384, 3], [2], [-6], [-6], [0, 3, 8193, 3]])


if __name__ == "__main__":
    unittest.main()
