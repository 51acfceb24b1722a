"""The refusals: their order where several hold at once, their kinds and places, and that nothing changes by them."""

import itertools
import unittest

from tests.writing import (ask, best, cost, counts, drop, has, merge, next_from, put, row, stamp, target, told_matches,
                           told_text)

MANY = 4097
NO_TEXT = "a{"
NOT_STRAIGHT = "ab{.1}{.1}"
TOO_MANY = "a" * MANY
# 65537 bytes are more than the interface lets in, but the words speak of them.
TOO_LONG = "\u20ac" * 21845 + "ab"


class RefusalCase(unittest.TestCase):
    def refused(self, call, refusal):
        """The call is refused so, and what stands there stands as before."""
        before = [put("s", "t", "p"), put("u", "v", None, "w", m=1), put("x", "", m=1), drop(0, m=1)]
        questions = [counts(0), counts(1), next_from(0), next_from(0, m=1), next_from(1)]
        questions += [row(entry, which, m) for entry, m in ((0, 0), (1, 1)) for which in range(4)]
        questions += [stamp(0), stamp(1, m=1), best("s", "p"), best("x", m=1), target(0, "{.1}"), has("t", side=1)]
        unasked = ask(*before, *questions)[len(before):]
        told = ask(*before, call, *questions)[len(before):]
        self.assertEqual(told[0], refusal)
        self.assertEqual(told[1:], unasked)


class OrderTest(RefusalCase):
    def test_bounds_of_numbers_before_choices_before_rows(self):
        self.refused(put(NO_TEXT, "", m=2, around=4, tick=2 ** 40), [-6])
        self.refused(put(NO_TEXT, "", m=2, around=4, person=256), [-6])
        self.refused(put(NO_TEXT, TOO_LONG, m=2), [-6])
        self.refused(put(TOO_LONG, NO_TEXT, m=2), [-6])
        self.refused(put(NO_TEXT, "", m=2), [-1])
        self.refused(put(NO_TEXT, "", around=4), [-1])
        self.refused(put(TOO_MANY, "", m=2), [-1])
        self.refused(put("{.1}", "", m=2), [-1])

    def test_the_length_of_told_neighbours(self):
        self.refused(put(NO_TEXT, "", TOO_LONG, "", around=1), [-6])
        self.refused(put(NO_TEXT, "", "", TOO_LONG, around=2), [-6])
        self.refused(put(NO_TEXT, "", TOO_LONG, "", around=2), [-5, 11, 2])
        self.refused(put(NO_TEXT, "", "", TOO_LONG, around=1), [-5, 11, 2])
        self.refused(put(NO_TEXT, "", TOO_LONG, TOO_LONG, around=0), [-5, 11, 2])

    def test_of_around_above_3_the_two_lowest_bits_count_for_the_length(self):
        self.refused(put("", "", TOO_LONG, "", around=4 + 1), [-6])
        self.refused(put("", "", "", TOO_LONG, around=4 + 2), [-6])
        self.refused(put("", "", TOO_LONG, "", around=4294967295), [-6])
        self.refused(put("", "", TOO_LONG, TOO_LONG, around=4), [-1])
        self.refused(put("", "", TOO_LONG, "", around=8 + 2), [-1])
        self.refused(put("", "", "", TOO_LONG, around=8 + 1), [-1])

    def test_kinds_and_places_by_row(self):
        for place in range(4):
            for text, refusal in ((NO_TEXT, [-5, 1, 2]), (NOT_STRAIGHT, [-5, 2, 6]), (TOO_MANY, [-6])):
                rows = ["", "", "", ""]
                rows[place] = text
                kind = [refusal[1] + 10 * (place + 1)] if len(refusal) > 1 else []
                self.refused(put(*rows), refusal[:1] + kind + refusal[2:])

    def test_rows_in_the_order_of_the_call(self):
        faults = {NO_TEXT: [-5, 1, 2], TOO_MANY: [-6], NOT_STRAIGHT: [-5, 2, 6]}
        for place in range(3):
            for first, second in itertools.product(faults, repeat=2):
                rows = ["", "", "", ""]
                rows[place] = first
                rows[place + 1] = second
                refusal = list(faults[first])
                if len(refusal) > 1:
                    refusal[1] += 10 * (place + 1)
                self.refused(put(*rows), refusal)

    def test_the_faults_of_one_row(self):
        # No text, behind more than 4096 pieces and behind tags that aren't straight.
        self.refused(put(NOT_STRAIGHT + TOO_MANY + "\x7f", ""), [-5, 11, 10 + MANY])
        self.refused(put(NOT_STRAIGHT + TOO_MANY, ""), [-6])
        self.refused(cost("", NOT_STRAIGHT + TOO_MANY + "{"), [-5, 21, 11 + MANY])
        self.refused(cost("", NOT_STRAIGHT + TOO_MANY), [-6])

    def test_a_target_that_does_not_fit_behind_all_rows(self):
        self.refused(put("{.1}", ""), [-5, 23, 0])
        self.refused(put("{.1}", "", NO_TEXT), [-5, 31, 2])
        self.refused(put("{.1}", "", None, NOT_STRAIGHT), [-5, 42, 6])
        self.refused(put("{.1}", "", None, TOO_MANY), [-6])

    def test_a_target_that_does_not_fit_before_the_bounds(self):
        calls = [put(str(number), "") for number in range(256)]
        told = ask(*calls, put("{.1}", ""), put("{.1}", "{.1}"), put("a", NO_TEXT), put("a", "", m=2), counts())
        self.assertEqual(told[256:], [[-5, 23, 0], [-6], [-5, 21, 2], [-1], [0, 256, 658, 256]])

    def test_cost(self):
        self.refused(cost(NO_TEXT, TOO_LONG), [-6])
        self.refused(cost(TOO_LONG, NO_TEXT), [-6])
        self.refused(cost(NO_TEXT, TOO_MANY), [-5, 11, 2])
        self.refused(cost(TOO_MANY, NO_TEXT), [-6])
        self.refused(cost(NOT_STRAIGHT, NO_TEXT), [-5, 12, 6])
        self.refused(cost("", NO_TEXT), [-5, 21, 2])
        self.refused(cost("", TOO_MANY), [-6])
        self.refused(cost("", NOT_STRAIGHT), [-5, 22, 6])

    def test_65536_bytes_are_not_too_long(self):
        # Its pieces are too many, but no text at all is told before that, so a fault shows that the length was let by.
        text = "\u20ac" * 21845 + "{"
        self.assertEqual(len(text.encode("utf-8")), 65536)
        self.refused(cost(text, ""), [-5, 11, 65536])
        self.refused(cost("a" + text, ""), [-6])

    def test_choices_before_entries_before_what_is_not_told(self):
        self.refused(row(9, 4), [-1])
        self.refused(row(9, 0, m=2), [-1])
        self.refused(row(9, 3), [-2])
        self.refused(row(0, 3), [-3])
        self.refused(row(0, 2, m=1), [-2])
        self.refused(row(1, 2, m=1), [-3])
        self.refused(drop(9, m=2), [-1])
        self.refused(drop(9), [-2])
        self.refused(next_from(9, m=2), [-1])
        self.refused(next_from(9), [-2])
        self.refused(counts(2), [-1])
        self.refused(stamp(9, m=2), [-1])
        self.refused(stamp(9), [-2])
        self.refused(merge(2), [-1])

    def test_an_entry_is_still_told_after_refusals(self):
        told = ask(put("s", "t", "p"), put("s", "t{", "p"), put("s", "t", "p", tick=2 ** 40), row(0, 2))
        self.assertEqual(told, [[0], [-5, 21, 2], [-6], told_text("p")])


class BestTest(RefusalCase):
    def test_bounds_of_least_and_most(self):
        for least, most, fine in ((0, 1, True), (1000, 256, True), (1001, 256, False), (4294967295, 1, False),
                                  (0, 0, False), (0, 257, False), (1000, 4294967295, False)):
            if fine:
                self.assertEqual(told_matches(ask(put("s", ""), best("s", least=least, most=most))[1]),
                                 [(0, 3, 1000, 0)])
            else:
                self.refused(best("s", least=least, most=most), [-6])

    def test_bounds_before_choices_before_rows(self):
        self.refused(best(NO_TEXT, m=2, around=4, least=1001), [-6])
        self.refused(best(NO_TEXT, m=2, around=4, most=0), [-6])
        self.refused(best(NO_TEXT, m=2, around=4, most=257), [-6])
        self.refused(best(TOO_LONG, m=2), [-6])
        self.refused(best(TOO_LONG, around=4), [-6])
        self.refused(best(NO_TEXT, TOO_LONG), [-6])
        self.refused(best(NO_TEXT, None, TOO_LONG), [-6])
        self.refused(best(NO_TEXT, m=2), [-1])
        self.refused(best(NO_TEXT, around=4), [-1])
        self.refused(best(TOO_MANY, m=4294967295), [-1])
        self.refused(best("s", around=4294967295), [-1])

    def test_of_around_above_3_the_two_lowest_bits_count_for_the_length(self):
        self.refused(best("", TOO_LONG, "", around=4 + 1), [-6])
        self.refused(best("", "", TOO_LONG, around=4 + 2), [-6])
        self.refused(best("", TOO_LONG, "", around=4 + 3), [-6])
        self.refused(best("", TOO_LONG, TOO_LONG, around=4), [-1])
        self.refused(best("", TOO_LONG, "", around=8 + 2), [-1])
        self.refused(best("", "", TOO_LONG, around=8 + 1), [-1])

    def test_what_is_not_told_is_not_looked_at(self):
        for text in (TOO_LONG, TOO_MANY, NO_TEXT, NOT_STRAIGHT):
            self.assertEqual(ask(put("s", ""), best("s", text, text, around=0), best("s", "", text, around=1),
                                 best("s", text, "", around=2))[1:], [[1, 0, 3, 1000, 0]] * 3)

    def test_kinds_and_places_in_the_order_of_the_rows(self):
        faults = {NO_TEXT: [-5, 1, 2], TOO_MANY: [-6], NOT_STRAIGHT: [-5, 2, 6]}
        kinds = (10, 30, 40)
        for texts in itertools.product(["", *faults], repeat=3):
            wrong = [(kind, faults[text]) for kind, text in zip(kinds, texts) if text]
            if wrong:
                kind, refusal = wrong[0]
                self.refused(best(*texts), refusal[:1] + [kind + number for number in refusal[1:2]] + refusal[2:])

    def test_the_faults_of_one_row(self):
        self.refused(best(NOT_STRAIGHT + TOO_MANY + "\x7f"), [-5, 11, 10 + MANY])
        self.refused(best(NOT_STRAIGHT + TOO_MANY), [-6])
        self.refused(best("", NOT_STRAIGHT + TOO_MANY + "{"), [-5, 31, 11 + MANY])
        self.refused(best("", "", NOT_STRAIGHT + TOO_MANY), [-6])

    def test_4096_pieces_and_65536_bytes(self):
        self.assertEqual(ask(best("a" * 4096, "b" * 4096, "c" * 4096)), [[0]])
        text = "\u20ac" * 21845 + "{"
        self.refused(best(text), [-5, 11, 65536])
        self.refused(best("", text), [-5, 31, 65536])
        self.refused(best("", None, text), [-5, 41, 65536])


class TargetTest(RefusalCase):
    def test_the_order(self):
        self.refused(target(9, TOO_LONG, m=2), [-6])
        self.refused(target(0, TOO_LONG), [-6])
        self.refused(target(9, NO_TEXT, m=2), [-1])
        self.refused(target(0, TOO_MANY, m=2), [-1])
        self.refused(target(0, "", m=4294967295), [-1])
        self.refused(target(9, NO_TEXT), [-5, 11, 2])
        self.refused(target(0, NO_TEXT), [-5, 11, 2])
        self.refused(target(9, TOO_MANY), [-6])
        self.refused(target(0, TOO_MANY), [-6])
        self.refused(target(9, NOT_STRAIGHT), [-5, 12, 6])
        self.refused(target(0, NOT_STRAIGHT), [-5, 12, 6])
        self.refused(target(0, NOT_STRAIGHT + TOO_MANY), [-6])
        self.refused(target(0, NOT_STRAIGHT + TOO_MANY + "{"), [-5, 11, 11 + MANY])
        self.refused(target(9, "{.1}"), [-2])
        self.refused(target(0, "", m=1), [-2])

    def test_a_target_of_too_many_pieces_behind_all_others(self):
        told = ask(put("", "x" * 4096), target(1, "{.1}"), target(0, "{.1}{"), target(0, "{.1}{.1}"),
                   target(0, "{.1}", m=2), target(0, "{.1}"), counts(), row(0, 1))
        self.assertEqual(told, [[0], [-2], [-5, 11, 5], [-5, 12, 4], [-1], [-6], [0, 1, 4096, 1],
                                told_text("x" * 4096)])


class HasTest(RefusalCase):
    def test_the_order(self):
        self.refused(has(TOO_LONG, m=2), [-6])
        self.refused(has(TOO_LONG, side=2), [-6])
        self.refused(has(TOO_LONG, 9), [-6])
        self.refused(has(NO_TEXT, m=2), [-1])
        self.refused(has(NO_TEXT, side=2), [-1])
        self.refused(has(TOO_MANY, side=4294967295), [-1])
        self.refused(has("t", m=4294967295), [-1])
        self.refused(has(NO_TEXT, 9), [-5, 11, 2])
        self.refused(has(NO_TEXT, side=1), [-5, 11, 2])
        self.refused(has(TOO_MANY, 9), [-6])
        self.refused(has(NOT_STRAIGHT, 9, side=1), [-5, 12, 6])
        self.refused(has(NOT_STRAIGHT + TOO_MANY), [-6])
        self.refused(has(NOT_STRAIGHT + TOO_MANY + "{"), [-5, 11, 11 + MANY])
        self.refused(has("t", 9), [-2])
        self.refused(has("t"), [-2])


if __name__ == "__main__":
    unittest.main()
