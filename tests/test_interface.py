"""The interface: what is handed in stays as it is, nothing is kept, and the longest lists are answered."""

import inspect
import sys
import unittest

import ferrymemory.memories
from ferrymemory.memories import answers
from ferrymemory.refusals import UnknownCall
from tests.writing import (ask, best, cost, counts, drop, has, merge, next_from, put, row, stamp, target, told_matches,
                           told_text)

ALL_CALLS = [
    put("Press {+1}F1{-1}.", "{+1}F1{-1} dr\u00fccken.", "Before.", None, tick=3, person=4), cost("one two", "one 2"),
    put("bad {", ""), counts(), next_from(0), row(0, 1), row(0, 3), stamp(0), stamp(4), drop(7), put("a", "b", m=1),
    best("Press {+2}F2{-2}.", "Before.", "Behind."), best("a", m=1, least=1000, most=1), best("{-1}", least=2000),
    target(0, "Hold {+3}F3{-3}."), target(0, "{-1}{.2}"), target(0, "{"), has("PRESS f1"), has("b", side=1, m=1),
    has("c"), has("", side=7), merge(1), merge(1), merge(0), merge(2), stamp(1, m=1), drop(0), counts(9),
    put("a", "b", tick=2 ** 64 - 1), row(0, 0, m=1), counts(1),
]


def joined(calls):
    return [number for call in calls for number in call]


class InterfaceTest(unittest.TestCase):
    def test_the_function(self):
        self.assertEqual(list(inspect.signature(ferrymemory.memories.answers).parameters), ["calls"])

    def test_answers_stand_one_behind_another(self):
        self.assertEqual(answers([4, 0]), [4, 0, 0, 0, 0])
        self.assertEqual(answers([1, 1, 97, 1, 65, 4, 2, 1, 1, 10, 0]), [4, 1, 875, 4, 4, 1, -1, 3, -5, 11, 0])
        self.assertEqual(answers([2, 1, 3, 9, 9, 1, 97, 2, 98, 99, 0, 1, 32, 6, 1, 0, 1, 6, 1, 0, 2, 5, 1, 0, 3, 1, 0]),
                         [1, 0, 4, 0, 2, 98, 99, 2, 0, 0, 1, 0, 1, 0])
        # Two entries, then stamp, best, target, has and merge, as the interface writes them.
        puts = [2, 0, 0, 7, 8, 1, 97, 1, 98, 0, 0, 2, 0, 0, 9, 9, 1, 98, 1, 97, 0, 0]
        asked = [7, 0, 0, 8, 0, 0, 0, 5, 1, 97, 0, 0, 9, 0, 0, 4, 123, 46, 49, 125, 10, 0, 0, 1, 1, 66, 11, 1, 11, 0]
        self.assertEqual(answers(puts + asked),
                         [1, 0, 1, 1, 3, 0, 7, 8, 9, 2, 0, 3, 1000, 0, 1, 0, 500, 4, 7, 0, 5, 98, 123, 46, 49, 125,
                          1, 1, 1, 2, 1, 0])
        refused = [8, 0, 0, 1001, 1, 0, 0, 0, 8, 0, 2, 0, 1, 0, 0, 1, 10, 9, 0, 5, 0, 10, 0, 2, 0, 0, 11, 2, 7, 1, 0]
        self.assertEqual(answers(refused), [1, -6, 3, -5, 41, 0, 1, -2, 1, -1, 1, -1, 1, -2])

    def test_a_number_that_is_no_call(self):
        for call in (0, 12, 4294967295):
            with self.assertRaises(UnknownCall):
                answers([4, 0, call, 0, 0, 0, 0, 0, 0, 0])

    def test_answers_are_whole_numbers_in_a_list(self):
        told = answers(joined(ALL_CALLS))
        self.assertIs(type(told), list)
        self.assertEqual({type(number) for number in told}, {int})

    def test_what_is_handed_in_is_not_changed(self):
        class Watched(list):
            def changed(self, *given):
                raise AssertionError("the list of calls is changed")

            __setitem__ = __delitem__ = __iadd__ = __imul__ = changed
            append = extend = insert = pop = remove = clear = sort = reverse = changed

        calls = joined(ALL_CALLS)
        self.assertEqual(answers(Watched(calls)), answers(calls))
        self.assertEqual(calls, joined(ALL_CALLS))

    def test_what_is_given_back_is_not_what_is_handed_in(self):
        calls = joined(ALL_CALLS)
        told = answers(calls)
        told.clear()
        self.assertEqual(calls, joined(ALL_CALLS))

    def test_nothing_is_kept(self):
        first = answers(joined(ALL_CALLS))
        self.assertEqual(answers(joined(ALL_CALLS)), first)
        answers(joined([put("else", "else"), merge(1), best("else"), has("else"), drop(0)]))
        self.assertEqual(answers(joined(ALL_CALLS)), first)
        first.clear()
        self.assertGreater(len(answers(joined(ALL_CALLS))), 100)

    def test_a_refused_call_is_passed_over_whole(self):
        self.assertEqual(ask(put("{", "{", "\n", "\n", m=7), counts()), [[-1], [0, 0, 0, 0]])
        for call in (best("{", "\n", "{{", m=7), best("aa", "bb", "cc", least=1001), best("aa", "bb", "{"),
                     target(3, "ab", m=7), target(3, "ab"), has("ab", side=7), has("ab", m=7), stamp(3, m=7), merge(7)):
            told = ask(call, counts(), call, counts())
            self.assertEqual([told[0][0] < 0, told[1], told[2:]], [True, [0, 0, 0, 0], told[:2]], call)


class LongestTest(unittest.TestCase):
    def test_400_calls(self):
        self.assertEqual(ask(*[counts()] * 400), [[0, 0, 0, 0]] * 400)
        calls = [put("ab" + chr(97 + number // 20), "c" + chr(97 + number % 20)) for number in range(200)]
        calls += [cost("a b, c", "a d! c")] * 83 + [row(number, 1) for number in range(117)]
        self.assertEqual(len(calls), 400)
        told = ask(*calls)
        self.assertEqual(told[:200], [[number] for number in range(200)])
        self.assertEqual(told[200:283], [[6, 785, 14, 14]] * 83)
        self.assertEqual(told[399], told_text("c" + chr(97 + 116 % 20)))

    def test_two_rows_as_long_as_can_be(self):
        calls = cost("!" * 4096, "?" * 4096)
        self.assertEqual(answers(calls), [4, 8192, 500, 8192, 8192])
        calls = cost("a." * 2048, "a," * 2048)
        self.assertEqual(answers(calls), [4, 4096, 833, 12288, 12288])

    def test_400_calls_of_all_kinds(self):
        puts = [put(chr(97 + number % 26) + "." * (number // 26), "x") for number in range(200)]
        asked = [best("a!"), has("b.."), target(7, "{.1}"), stamp(9), merge(1), drop(3, m=1), counts(1), counts()] * 25
        self.assertEqual(len(puts + asked), 400)
        told = ask(*puts, *asked)[200:]
        self.assertEqual(told_matches(told[0])[0], (26, 0, 833, 2))
        self.assertEqual(told[1:8], [[53], told_text("x{.1}"), [0, 0, 0], [200], [0], [0, 199, 1070, 200],
                                     [0, 200, 1072, 200]])
        self.assertEqual(told[8:12], told[:4])
        # What was dropped is new again, and dropped under its first number it can't be.
        self.assertEqual([answer[0] for answer in told[12::8]], [1] + [0] * 23)
        self.assertEqual([answer[0] for answer in told[13::8]], [-2] * 24)

    def test_best_as_long_as_can_be(self):
        calls = joined([put("!" * 3990, ""), put("?." * 1994, ""), best("?" * 3990), best("." * 3988)])
        self.assertLessEqual(len(calls), 16000)
        self.assertEqual(answers(calls), [1, 0, 1, 1, 9, 2, 1, 0, 749, 3992, 0, 0, 500, 7980,
                                          9, 2, 1, 0, 750, 3988, 0, 0, 499, 7980])

    def test_many_entries_and_many_bests(self):
        puts = [put(str(number), "") for number in range(256)]
        told = ask(*puts, *[best(str(number)) for number in range(144)])[256:]
        for number, answer in enumerate(told):
            found = told_matches(answer)
            self.assertEqual((len(found), found[0], found[1]), (256, (number, 3, 1000, 0), (not number, 0, 875, 1)))

    def test_has_as_long_as_can_be(self):
        told = ask(put("a " * 2047, ""), put("a " * 2046 + "b", ""), has("A " * 1000 + "b"), has("a " * 1000 + "c"),
                   has("a " * 1000 + "b", 1), has("a " * 1000, 2))
        self.assertEqual(told[2:], [[1], [-2], [1], [-2]])

    def test_256_entries_merged_again_and_again(self):
        puts = [put(str(number), "", m=number % 2) for number in range(256)]
        told = ask(*puts, *[merge(turn % 2) for turn in range(144)])
        self.assertEqual(told[256:], [[128], [128]] + [[0]] * 142)

    def test_a_row_of_15000_bytes(self):
        text = "\U0001f600" * 3750
        self.assertEqual(ask(cost(text, "")), [[4, 0, 4, 0]])
        told = ask(put(text, ""), row(0, 0))
        self.assertEqual(told[1], told_text(text))
        self.assertEqual(ask(cost("{" * 15000, "")), [[-6]])
        self.assertEqual(ask(cost("{" * 14999, "")), [[-5, 11, 14999]])
        self.assertEqual(ask(best(text), target(0, text), has(text)), [[0], [-2], [-2]])
        self.assertEqual(ask(best("{" * 15000), best("", "{" * 14999), target(0, "{" * 14999), has("{" * 15000)),
                         [[-6], [-5, 31, 14999], [-5, 11, 14999], [-6]])

    def test_it_needs_few_calls_within_one_another(self):
        deep = "".join(f"{{+{n}}}" for n in range(1, 1000))
        calls = joined([put(deep, "x" + deep), cost(" a." * 500, "a! " * 500), target(0, "{.1}"),
                        has("x" * 2000, side=1), best("{-1}" + "a b." * 100), merge(1), stamp(0, m=1)]
                       + [counts()] * 50)
        shallow = len(inspect.stack()) + 40
        limit = sys.getrecursionlimit()
        sys.setrecursionlimit(shallow)
        try:
            told = answers(calls)
        finally:
            sys.setrecursionlimit(limit)
        self.assertEqual(told[:7], [1, 0, 4, 1000, 833, 3000, 3000])
        self.assertEqual(told[7:16], [7, 0, 5] + list(b"x{.1}") + [1])


if __name__ == "__main__":
    unittest.main()
