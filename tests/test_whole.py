"""The whole program: long lists of all calls against a plain model, and two ways to the same entries."""

import random
import unittest

from tests import test_best, test_cost, test_has, test_straight, test_target
from tests.writing import (ask, best, cost, counts, drop, has, merge, next_from, put, row, stamp, target, told_matches,
                           told_text)

SEGMENTS = ["", "a b", "a  b", "A b", "b 12.", "{.1}a", "{.2}a", "{.2} a", "a {+1}b{-1}", "a {+3}b{-3}", "{-1}a{+2}",
            "{+1}{.2}{-1}", "{.2}{.1}!", "{.1}{.2}!", "b\u00e9"]
TARGETS = SEGMENTS[:5] + ["{.1}x", "x{.2}", "{+1}y{-1} x", "y{+3}{-3}", "{-1}x{+2}y", "{+1}{-1}{.2}", "{.1}x{.2}"]
NEIGHBOURS = [None, None, "", "p", "q"]
WRONG = ["{", "{.1}{.1}", "\x7f"]


def fits(t, s):
    """A second way to fitting, of straight rows."""
    ours, theirs = ([(tag[1], tag[2:-1]) for tag in test_target.tags(text)] for text in (t, s))
    return sorted(ours) == sorted(theirs) and test_straight.halves(ours) == test_straight.halves(theirs)


class Model:
    """Two memories as dicts: by number an entry (s, t, p, q, tick, person)."""

    def __init__(self):
        self.entries = [{}, {}]
        self.given = [0, 0]

    def put(self, m, entry):
        for number, other in self.entries[m].items():
            if other[:4] == entry[:4]:
                self.entries[m][number] = entry[:4] + max(other[4:], entry[4:])
                return number
        self.entries[m][self.given[m]] = entry
        self.given[m] += 1
        return self.given[m] - 1

    def merge(self, m):
        before = self.given[m]
        for number in sorted(self.entries[1 - m]):
            self.put(m, self.entries[1 - m][number])
        return self.given[m] - before

    def counts(self, m):
        pieces = [len(test_target.parts(text)) for entry in self.entries[m].values() for text in entry[:4] if text]
        return [0, len(self.entries[m]), sum(pieces), self.given[m]]

    def first(self, m, start, wanted):
        found = [number for number, entry in self.entries[m].items() if number >= start and wanted(entry)]
        return [min(found)] if found else [-2]


class Chance:
    """Calls by chance, each with what the model answers."""

    def __init__(self, seed):
        self.random = random.Random(seed)
        self.model = Model()

    def pick(self, choices):
        return self.random.choice(choices)

    def number(self):
        return self.random.randrange(max(self.model.given) + 2)

    def put_call(self):
        m = self.pick((0, 1))
        s = self.pick(SEGMENTS)
        t = self.pick([text for text in TARGETS if fits(text, s)] or [s])
        entry = (s, t, self.pick(NEIGHBOURS), self.pick(NEIGHBOURS), self.pick(range(3)), self.pick(range(3)))
        return put(*entry[:4], m=m, tick=entry[4], person=entry[5]), [self.model.put(m, entry)]

    def refused_put(self):
        s, t = self.pick(SEGMENTS), self.pick(TARGETS)
        text = self.pick(WRONG)
        place = {"{": 1, "{.1}{.1}": 4, "\x7f": 0}[text]
        kind = 2 if place == 4 else 1
        choices = [(put(s, t, m=2), [-1]), (put(text, t, tick=2), [-5, 10 + kind, place]),
                   (put(s, text), [-5, 20 + kind, place]), (put(s, s, text, tick=9), [-5, 30 + kind, place])]
        if not fits(t, s):
            choices.append((put(s, t, tick=9), [-5, 23, 0]))
        return self.pick(choices)

    def drop_call(self):
        m, number = self.pick((0, 1)), self.number()
        return drop(number, m), [-2] if self.model.entries[m].pop(number, None) is None else [0]

    def merge_call(self):
        m = self.pick((0, 1))
        return merge(m), [self.model.merge(m)]

    def question(self):
        m, number = self.pick((0, 1)), self.number()
        return self.pick((self.about_memory, self.about_entry, self.about_segment))(m, number)

    def about_memory(self, m, number):
        if self.pick((0, 1)):
            return counts(m), self.model.counts(m)
        return next_from(number, m), self.model.first(m, number, lambda entry: True)

    def about_entry(self, m, number):
        which, s = self.pick(range(4)), self.pick(SEGMENTS)
        entry = self.model.entries[m].get(number)
        call = self.pick((row(number, which, m), stamp(number, m), target(number, s, m)))
        if entry is None:
            return call, [-2]
        if call[0] == 6:
            return call, [-3] if entry[which] is None else told_text(entry[which])
        return call, [0, *entry[4:]] if call[0] == 7 else told_text(test_target.second_way(entry[0], entry[1], s))

    def about_segment(self, m, number):
        s, t = self.pick(SEGMENTS), self.pick(SEGMENTS + TARGETS + ["a", "x", "."])
        if self.pick(range(5)) == 0:
            return cost(s, t), test_cost.expected(s, t)
        if self.pick((0, 1)):
            side = self.pick((0, 1))
            found = self.model.first(m, number, lambda entry: test_has.second_way(entry[side], t))
            return has(t, number, side, m), found
        asked = [s, self.pick(NEIGHBOURS), self.pick(NEIGHBOURS)]
        least, most = self.pick((0, 500, 900, 1000)), self.pick((1, 3, 256))
        found = test_best.second_way(self.model.entries[m], *asked, least, most)
        return best(*asked, m=m, least=least, most=most), [len(found)] + [n for match in found for n in match]

    def turn(self):
        kinds = [self.put_call] * 5 + [self.refused_put, self.drop_call, self.drop_call, self.merge_call]
        return self.pick(kinds + [self.question] * 9)()


class ModelTest(unittest.TestCase):
    def test_lists_of_all_calls(self):
        seen = set()
        for seed in range(60):
            chance = Chance(seed)
            turns = [chance.turn() for turn in range(chance.pick((3, 20, 60)))]
            told = ask(*[call for call, answer in turns])
            for (call, answer), found in zip(turns, told):
                self.assertEqual(found, answer, (seed, call))
            seen |= {(call[0], answer[0] < 0) for call, answer in turns}
        self.assertEqual({call for call, refused in seen}, set(range(1, 12)))
        self.assertEqual({call for call, refused in seen if refused}, {2, 3, 5, 6, 7, 9, 10})


class TwoWaysTest(unittest.TestCase):
    """What is told hangs on the entries alone, but for counts' next number."""

    def straight_way(self, model):
        """Puts that lead to the model's entries under their numbers, with nothing else but what holds numbers free."""
        calls = []
        for m in (0, 1):
            for number in range(max(model.entries[m], default=-1) + 1):
                if number in model.entries[m]:
                    entry = model.entries[m][number]
                    calls.append(put(*entry[:4], m=m, tick=entry[4], person=entry[5]))
                else:
                    calls += [put("held free", "", m=m), drop(number, m)]
        return calls

    def questions(self, model):
        asked = []
        for m in (0, 1):
            asked += [counts(m)] + [next_from(number, m) for number in range(0, model.given[m] + 2, 3)]
            for number in list(model.entries[m])[:6] + [model.given[m]]:
                asked += [row(number, which, m) for which in range(4)] + [stamp(number, m)]
                asked += [target(number, s, m) for s in SEGMENTS[5:12:2]]
            asked += [best(s, p, q, m=m) for s in SEGMENTS[::3] for p, q in ((None, None), ("p", "q"))]
            asked += [has(t, side=side, m=m) for t in ("a", "b 12", "x") for side in (0, 1)]
        return asked + [merge(1), merge(0), merge(1)]

    def told(self, calls, asked):
        answers = ask(*calls, *asked)[len(calls):]
        return [answer[:3] if call[0] == 4 else answer for call, answer in zip(asked, answers)]

    def test_two_ways_to_the_same_entries(self):
        for seed in range(100, 140):
            chance = Chance(seed)
            calls = [chance.turn()[0] for turn in range(60)]
            asked = self.questions(chance.model)
            one = self.told(calls, asked)
            other = self.told(self.straight_way(chance.model), asked)
            for call, here, there in zip(asked, one, other):
                self.assertEqual(here, there, (seed, call))

    def test_by_merge_and_by_put(self):
        entries = [("a", "x", "p", "q"), ("b {.1}", "y{.1}"), ("c", "z", None, "q")]
        questions = [counts(), next_from(1), stamp(0), stamp(2), row(0, 2), row(2, 2), best("a", "p", "q"), best("c"),
                     target(1, "{.9}"), has("z", side=1)]
        puts = [put(*rows, tick=place) for place, rows in enumerate(entries)]
        others = [put(*rows, tick=place, m=1) for place, rows in enumerate(entries)]
        told = [ask(*calls, *questions)[-len(questions):] for calls in (
            puts, others + [merge(0)], puts[:2] + others + [merge(0)],
            [put(*entries[0])] + others[1:] + [merge(0), merge(0)], puts + puts,
            puts[:1] + others + [merge(0)] + [drop(0, m=1), drop(1, m=1), drop(2, m=1)] + [merge(0)])]
        self.assertEqual(told[1:], told[:1] * 5)
        self.assertEqual(told_matches(told[0][6])[0], (0, 4, 1000, 0))


if __name__ == "__main__":
    unittest.main()
