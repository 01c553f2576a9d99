"""Whole lists of calls: held against the plain object, refusals that change nothing, time, nothing kept."""

import unittest
from itertools import combinations
from random import Random
from time import process_time

from litfires.fires import answers
from plain import ARGUMENTS, EDGES, TOP, WRITTEN, ask, flat, laid, plain_answers


def random_call(random, top):
    """Places are mostly there; every edge comes now and then. begin, line and ring come seldom."""
    names = [name for name in WRITTEN for _ in range(1 if name in ("begin", "line", "ring") else 4)]
    name = random.choice(names)
    given = []
    for _ in range(ARGUMENTS[name]):
        given.append(random.choice(EDGES) if random.random() < 0.15 else random.randrange(top))
    return (name, *given)


def random_line(seed, top):
    """Calls on at most `top` - 1 places, the plain search being what's slow."""
    random = Random(seed)
    calls = []
    while len(calls) < 60:
        call = random_call(random, top)
        if call[0] not in ("begin", "line", "ring") or not top <= call[1] <= 9:
            calls.append(call)
        if random.random() < 0.02:
            calls.append(("begin", top - 1))
    return calls


class Frozen(list):
    """A list that may be read alone."""

    def refuse(self, *given, **named):
        raise AssertionError("what is handed in is changed")

    append = extend = insert = pop = remove = clear = reverse = sort = refuse
    __setitem__ = __delitem__ = __iadd__ = __imul__ = refuse


class PlainObject(unittest.TestCase):
    def test_random_lines(self):
        for seed in range(300):
            calls = random_line(seed, 3 + seed % 4)
            self.assertEqual(ask(*calls), plain_answers(calls), seed)

    def test_every_call_and_every_refusal_comes_in_them(self):
        seen = set()
        for seed in range(300):
            calls = random_line(seed, 3 + seed % 4)
            seen |= {(call[0], min(answer[0], 0)) for call, answer in zip(calls, ask(*calls))}
        due = {(name, -11) for name in WRITTEN if name != "begin"} | {(name, 0) for name in WRITTEN}
        due |= {("begin", -22), ("line", -22), ("ring", -22), ("join", -2), ("join", -22), ("join", -17)}
        due |= {("part", -2), ("part", -6), ("light", -2), ("light", -28)}
        self.assertEqual(seen, due)


class Refused(unittest.TestCase):
    def test_the_same_is_answered_without_what_is_refused(self):
        for seed in range(300, 600):
            calls = random_line(seed, 3 + seed % 7)
            answered = ask(*calls)
            kept = [call for call, answer in zip(calls, answered) if answer[0] >= 0]
            if kept:
                self.assertEqual(ask(*kept), [answer for answer in answered if answer[0] >= 0], seed)

    def test_each_refusal_on_a_full_object(self):
        before = [("begin", 1), ("ring", 5), ("join", 0, 2), ("part", 3, 4)] + [("light", 1)] * 5
        after = [("burns",), ("left",), ("best",), ("join", 3, 4), ("out",), ("light", 4), ("light", 4), ("burns",)]
        expected = ask(*before, *after)[len(before):]
        refused = [("begin", 0), ("begin", 10), ("line", 0), ("line", 10), ("ring", 2), ("ring", 10)]
        refused += [("begin", TOP), ("line", TOP), ("ring", TOP), ("ring", 0), ("ring", 1)]
        refused += [("join", 0, 5), ("join", 5, 5), ("join", 1, 1), ("join", 2, 0), ("join", TOP, TOP)]
        refused += [("part", 5, 0), ("part", 0, 3), ("part", 4, 3), ("part", 2, 2), ("part", 0, TOP)]
        refused += [("light", 5), ("light", 0), ("light", TOP)]
        for call in refused:
            answered = ask(*before, call, *after)[len(before):]
            self.assertEqual(len(answered[0]), 1)
            self.assertLess(answered[0][0], 0, call)
            self.assertEqual(answered[1:], expected, call)


class TheList(unittest.TestCase):
    def test_the_answers_as_numbers(self):
        calls = [9, 0, 3, 1, 0, 1, 1, 1, 0, 7, 8, 5, 2, 7, 10, 6, 4, 3, 2, 0, 2]
        expected = [1, -11, 1, 0, 1, 1, 1, -17, 1, 0, 4, 3, 0, 1, 2, 1, 1, 2, 1, 2]
        expected += [3, 2, 0, 2, 1, 1, 1, 3, 1, 2]
        self.assertEqual(answers(calls), expected)

    def test_kinds(self):
        said = answers(flat(laid(9, [(0, 1)]) + [("light", 0), ("burns",), ("left",), ("best",), ("join", 0, 0)]))
        self.assertIs(type(said), list)
        for number in said:
            self.assertIs(type(number), int)

    def test_handed_in_is_not_changed(self):
        for seed in range(600, 640):
            numbers = flat(random_line(seed, 9))
            frozen = Frozen(numbers)
            answers(frozen)
            self.assertEqual(list(frozen), numbers)

    def test_nothing_is_kept(self):
        for seed in range(640, 680):
            numbers = flat(random_line(seed, 9))
            first = answers(numbers)
            self.assertEqual(answers([9]), [1, -11])
            self.assertEqual(answers(flat([("begin", 2), ("burns",), ("best",)])), [1, 0, 1, 0, 3, 2, 0, 1])
            self.assertEqual(answers(numbers), first)

    def test_what_is_given_back_is_the_callers_own(self):
        numbers = flat(laid(4, [(0, 1)]) + [("best",), ("burns",)])
        first = answers(numbers)
        kept = list(first)
        first.clear()
        self.assertEqual(answers(numbers), kept)


class Time(unittest.TestCase):
    def held(self, calls):
        self.assertLessEqual(len(calls), 400)
        began = process_time()
        answered = ask(*calls)
        self.assertLess(process_time() - began, 10)
        return answered

    def test_turns_and_best_without_joins(self):
        answered = self.held([("begin", 9)] + [("turns",), ("best",)] * 199)
        self.assertEqual(answered[1:], [[9], [9] + list(range(9))] * 199)

    def test_best_behind_each_join(self):
        calls = [("begin", 9)]
        for pair in combinations(range(9), 2):
            calls += [("join", *pair), ("turns",), ("best",), ("light", 0)]
        calls += [("best",)] * (400 - len(calls))
        self.assertEqual(self.held(calls)[-1], [2, 0, 0])

    def test_best_between_join_and_part(self):
        calls = [("begin", 9)] + [("join", 7, 8), ("best",), ("part", 8, 7), ("best",)] * 99
        self.assertEqual(self.held(calls)[-1], [9] + list(range(9)))

    def test_random_lines_of_four_hundred(self):
        for seed in range(5):
            random = Random(seed)
            calls = [("begin", 9)]
            while len(calls) < 400:
                calls.append(random.choice([random_call(random, 9), ("turns",), ("best",)]))
            self.assertEqual(len(self.held(calls)), 400)


if __name__ == "__main__":
    unittest.main()
