"""The interface: what is handed in stays as it is, nothing is kept, and the longest lists are answered."""

import inspect
import sys
import unittest

import ferrymemory.memories
from ferrymemory.memories import answers
from tests.writing import ask, cost, counts, drop, next_from, put, row, told_text

ALL_CALLS = [
    put("Press {+1}F1{-1}.", "{+1}F1{-1} dr\u00fccken.", "Before.", None, tick=3, person=4), cost("one two", "one 2"),
    put("bad {", ""), counts(), next_from(0), row(0, 1), row(0, 3), drop(7), put("a", "b", m=1), drop(0), counts(9),
    put("a", "b", tick=2 ** 64 - 1), row(0, 0, m=1), counts(1),
]


def joined(calls):
    return [number for call in calls for number in call]


class InterfaceTest(unittest.TestCase):
    def test_the_function(self):
        self.assertEqual(list(inspect.signature(ferrymemory.memories.answers).parameters), ["calls"])

    def test_answers_stand_one_behind_another(self):
        self.assertEqual(answers([4, 0]), [4, 0, 0, 0, 0])
        self.assertEqual(answers([1, 1, 97, 1, 65, 4, 2, 1, 1, 10, 0]), [4, 1, 875, 4, 4, 1, -1, 3, -5, 11, 0])
        self.assertEqual(answers([2, 1, 3, 9, 9, 1, 97, 2, 98, 99, 0, 1, 32, 6, 1, 0, 1, 6, 1, 0, 2, 5, 1, 0, 3, 1, 0]),
                         [1, 0, 4, 0, 2, 98, 99, 2, 0, 0, 1, 0, 1, 0])

    def test_answers_are_whole_numbers_in_a_list(self):
        told = answers(joined(ALL_CALLS))
        self.assertIs(type(told), list)
        self.assertEqual({type(number) for number in told}, {int})

    def test_what_is_handed_in_is_not_changed(self):
        class Watched(list):
            def changed(self, *given):
                raise AssertionError("the list of calls is changed")

            __setitem__ = __delitem__ = __iadd__ = __imul__ = changed
            append = extend = insert = pop = remove = clear = sort = reverse = changed

        calls = joined(ALL_CALLS)
        self.assertEqual(answers(Watched(calls)), answers(calls))
        self.assertEqual(calls, joined(ALL_CALLS))

    def test_what_is_given_back_is_not_what_is_handed_in(self):
        calls = joined(ALL_CALLS)
        told = answers(calls)
        told.clear()
        self.assertEqual(calls, joined(ALL_CALLS))

    def test_nothing_is_kept(self):
        first = answers(joined(ALL_CALLS))
        answers(joined([put("else", "else")]))
        self.assertEqual(answers(joined(ALL_CALLS)), first)

    def test_a_refused_call_is_passed_over_whole(self):
        self.assertEqual(ask(put("{", "{", "\n", "\n", m=7), counts()), [[-1], [0, 0, 0, 0]])


class LongestTest(unittest.TestCase):
    def test_400_calls(self):
        self.assertEqual(ask(*[counts()] * 400), [[0, 0, 0, 0]] * 400)
        calls = [put("ab" + chr(97 + number // 20), "c" + chr(97 + number % 20)) for number in range(200)]
        calls += [cost("a b, c", "a d! c")] * 83 + [row(number, 1) for number in range(117)]
        self.assertEqual(len(calls), 400)
        told = ask(*calls)
        self.assertEqual(told[:200], [[number] for number in range(200)])
        self.assertEqual(told[200:283], [[6, 785, 14, 14]] * 83)
        self.assertEqual(told[399], told_text("c" + chr(97 + 116 % 20)))

    def test_two_rows_as_long_as_can_be(self):
        calls = cost("!" * 4096, "?" * 4096)
        self.assertEqual(answers(calls), [4, 8192, 500, 8192, 8192])
        calls = cost("a." * 2048, "a," * 2048)
        self.assertEqual(answers(calls), [4, 4096, 833, 12288, 12288])

    def test_a_row_of_15000_bytes(self):
        text = "\U0001f600" * 3750
        self.assertEqual(ask(cost(text, "")), [[4, 0, 4, 0]])
        told = ask(put(text, ""), row(0, 0))
        self.assertEqual(told[1], told_text(text))
        self.assertEqual(ask(cost("{" * 15000, "")), [[-6]])
        self.assertEqual(ask(cost("{" * 14999, "")), [[-5, 11, 14999]])

    def test_it_needs_few_calls_within_one_another(self):
        deep = "".join(f"{{+{n}}}" for n in range(1, 1000))
        calls = joined([put(deep, "x" + deep), cost(" a." * 500, "a! " * 500)] + [counts()] * 50)
        shallow = len(inspect.stack()) + 40
        limit = sys.getrecursionlimit()
        sys.setrecursionlimit(shallow)
        try:
            told = answers(calls)
        finally:
            sys.setrecursionlimit(limit)
        self.assertEqual(told[:7], [1, 0, 4, 1000, 833, 3000, 3000])


if __name__ == "__main__":
    unittest.main()
