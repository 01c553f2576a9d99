"""Whole lists of calls: held against the plain object, refusals that change nothing, time, nothing kept."""

import unittest
from itertools import combinations
from random import Random
from time import process_time

from litfires.fires import answers
from plain import ARGUMENTS, CHANGING, EDGES, NAMES, TOP, ask, flat, laid, plain_answers


SELDOM = ("begin", "line", "ring")
OFTEN = ("join", "part", "light")


def random_call(random, top):
    """Places are mostly there; every edge comes now and then. begin, line and ring come seldom."""
    weights = [1 if name in SELDOM else 12 if name in OFTEN else 4 for name in NAMES]
    name = random.choices(NAMES, weights)[0]
    if name == "row":
        length = random.randrange(12)
        edge = 0.03
    else:
        length = ARGUMENTS[name]
        edge = 0.15
    given = [random.choice(EDGES) if random.random() < edge else random.randrange(top) for _ in range(length)]
    return (name, given) if name == "row" else (name, *given)


def random_line(seed, top):
    """Calls on at most `top` - 1 places, the plain search being what's slow."""
    random = Random(seed)
    calls = []
    while len(calls) < 60:
        call = random_call(random, top)
        if call[0] not in SELDOM or not top <= call[1] <= 9:
            calls.append(call)
        if random.random() < 0.02:
            calls.append(("begin", top - 1))
    return calls


class Frozen(list):
    """A list that may be read alone."""

    def refuse(self, *given, **named):
        raise AssertionError("what is handed in is changed")

    append = extend = insert = pop = remove = clear = reverse = sort = refuse
    __setitem__ = __delitem__ = __iadd__ = __imul__ = refuse


class PlainObject(unittest.TestCase):
    def test_random_lines(self):
        for seed in range(300):
            calls = random_line(seed, 3 + seed % 4)
            self.assertEqual(ask(*calls), plain_answers(calls), seed)

    def test_every_call_and_every_refusal_comes_in_them(self):
        seen = set()
        for seed in range(300):
            calls = random_line(seed, 3 + seed % 4)
            seen |= {(call[0], min(answer[0], 0)) for call, answer in zip(calls, ask(*calls))}
        due = {(name, -11) for name in NAMES if name != "begin"} | {(name, 0) for name in NAMES}
        due |= {("begin", -22), ("line", -22), ("ring", -22), ("join", -2), ("join", -22), ("join", -17)}
        due |= {("part", -2), ("part", -6), ("light", -2), ("light", -28), ("row", -22), ("can", -22), ("can", -33)}
        due |= {("within", -2), ("with", -2), ("with", -22), ("with", -17), ("without", -2), ("without", -6)}
        due |= {("far", -2), ("far", -33), ("root", -22)}
        self.assertEqual(seen, due)


class Refused(unittest.TestCase):
    def test_the_same_is_answered_without_what_is_refused(self):
        for seed in range(300, 600):
            calls = random_line(seed, 3 + seed % 7)
            answered = ask(*calls)
            kept = [call for call, answer in zip(calls, answered) if answer[0] >= 0]
            if kept:
                self.assertEqual(ask(*kept), [answer for answer in answered if answer[0] >= 0], seed)

    def test_the_state_is_the_same_behind_it(self):
        for seed in range(700, 740):
            calls = [("state",)]
            for call in random_line(seed, 9):
                calls += [call, ("state",)]
            answered = ask(*calls)
            for at in range(1, len(calls), 2):
                if answered[at][0] < 0:
                    self.assertEqual(len(answered[at]), 1, calls[at])
                    self.assertEqual(answered[at - 1], answered[at + 1], calls[at])


class Looked(unittest.TestCase):
    """What only tells something changes nothing, refused or not."""

    def test_the_same_is_answered_without_it(self):
        for seed in range(400, 700):
            calls = random_line(seed, 3 + seed % 7)
            for name in NAMES:
                if name not in CHANGING and seed % len(NAMES) == NAMES.index(name):
                    self.held(calls, lambda call: call[0] != name)
            self.held(calls, lambda call: call[0] in CHANGING or call[0] == "state")

    def held(self, calls, kept):
        expected = [answer for call, answer in zip(calls, ask(*calls)) if kept(call)]
        rest = [call for call in calls if kept(call)]
        if rest:
            self.assertEqual(ask(*rest), expected)

    def test_one_by_one(self):
        before = [("begin", 1), ("ring", 5), ("join", 3, 1), ("part", 0, 1), ("light", 4), ("light", 4)]
        after = [("state",), ("burns",), ("left",), ("best",), ("light", 1), ("state",), ("tree",), ("finish",)]
        expected = ask(*before, *after)[len(before):]
        looks = [("burns",), ("left",), ("turns",), ("best",), ("row", [0, 1, 2]), ("row", [5]), ("row", [0] * 11)]
        looks += [("can", 4), ("can", 0), ("can", 10), ("within", 0, 2), ("within", 5, 0), ("with", 0, 2)]
        looks += [("with", 0, 1), ("with", 1, 3), ("with", 2, 2), ("without", 3, 1), ("without", 0, 1)]
        looks += [("without", 9, 9), ("far", 0, 1), ("far", 5, 0), ("root", 9), ("root", TOP), ("finish",)]
        looks += [("parts",), ("tree",), ("state",)]
        for call in looks:
            self.assertEqual(ask(*before, call, *after)[len(before) + 1:], expected, call)
        self.assertEqual(ask(*before, *looks, *after)[len(before) + len(looks):], expected)


class TheList(unittest.TestCase):
    def test_the_answers_as_numbers(self):
        calls = [9, 0, 3, 1, 0, 1, 1, 1, 0, 7, 8, 5, 2, 7, 10, 6, 4, 3, 2, 0, 2]
        expected = [1, -11, 1, 0, 1, 1, 1, -17, 1, 0, 4, 3, 0, 1, 2, 1, 1, 2, 1, 2]
        expected += [3, 2, 0, 2, 1, 1, 1, 3, 1, 2]
        self.assertEqual(answers(calls), expected)

    def test_the_answers_of_the_later_calls_as_numbers(self):
        calls = [0, 4, 1, 3, 1, 1, 0, 1, 5, 2, 11, 0, 11, 3, 1, 2, 0, 12, 3, 13, 1, 1, 14, 2, 3, 15, 0, 1]
        calls += [16, 0, 3, 16, 2, 0, 17, 10, 18, 19, 20, 21]
        expected = [1, 0, 1, 1, 1, 2, 1, 1, 2, 0, 0, 2, 1, 4, 4, 3, 0, 0, 2, 4, 3, 0, 1, 3, 2, 2, 2, 2, 3, 2]
        expected += [1, 2, 1, -33, 1, 4, 2, 2, 1, 3, 2, 3, 1, 5, 2, 1, 3, 0, 1, 7, 4, 2, 1, 3, 0, 1, 2]
        self.assertEqual(answers(calls), expected)

    def test_kinds(self):
        calls = laid(7, [(0, 1)]) + [("light", 0), ("burns",), ("left",), ("best",), ("join", 0, 0)]
        calls += [("row", [0]), ("row", list(range(7))), ("can", 7), ("within", 0, 1), ("with", 1, 2), ("without", 0, 1)]
        calls += [("far", 0, 1), ("far", 0, 2), ("root", 9), ("finish",), ("parts",), ("tree",), ("state",)]
        said = answers(flat(calls))
        self.assertIs(type(said), list)
        for number in said:
            self.assertIs(type(number), int)

    def test_handed_in_is_not_changed(self):
        for seed in range(600, 640):
            numbers = flat(random_line(seed, 9))
            frozen = Frozen(numbers)
            answers(frozen)
            self.assertEqual(list(frozen), numbers)

    def test_nothing_is_kept(self):
        for seed in range(640, 680):
            numbers = flat(random_line(seed, 9))
            first = answers(numbers)
            self.assertEqual(answers([9]), [1, -11])
            self.assertEqual(answers(flat([("begin", 2), ("burns",), ("best",)])), [1, 0, 1, 0, 3, 2, 0, 1])
            self.assertEqual(answers(numbers), first)

    def test_what_is_given_back_is_the_callers_own(self):
        numbers = flat(laid(4, [(0, 1)]) + [("best",), ("burns",)])
        first = answers(numbers)
        kept = list(first)
        first.clear()
        self.assertEqual(answers(numbers), kept)


MANY = (
    ("row", [0, 1, 2, 3, 4, 5, 6, 7, 8]),
    ("row", [0] * 11),
    ("can", 9),
    ("within", 0, TOP),
    ("with", 0, 8),
    ("without", 0, 1),
    ("far", 0, 8),
    ("root", 1000),
    ("root", TOP),
    ("finish",),
    ("parts",),
    ("tree",),
    ("state",),
)
# Orders in which nearly every choice of joins comes ahead of the one to tell.
SLOW_TREES = (
    [(0, 4), (0, 1), (1, 2), (4, 5), (1, 6), (4, 6), (5, 6), (2, 6), (0, 6)],
    [(5, 6), (0, 1), (1, 3), (0, 3), (1, 5), (2, 3), (3, 6), (3, 5), (0, 6)],
    [(1, 2), (3, 4), (5, 6), (0, 1), (0, 2), (0, 3), (0, 4), (0, 5), (0, 6)],
)


class Time(unittest.TestCase):
    def held(self, calls):
        self.assertLessEqual(len(calls), 400)
        began = process_time()
        answered = ask(*calls)
        self.assertLess(process_time() - began, 10)
        return answered

    def test_turns_and_best_without_joins(self):
        answered = self.held([("begin", 9)] + [("turns",), ("best",)] * 199)
        self.assertEqual(answered[1:], [[9], [9] + list(range(9))] * 199)

    def test_best_behind_each_join(self):
        calls = [("begin", 9)]
        for pair in combinations(range(9), 2):
            calls += [("join", *pair), ("turns",), ("best",), ("light", 0)]
        calls += [("best",)] * (400 - len(calls))
        self.assertEqual(self.held(calls)[-1], [2, 0, 0])

    def test_best_between_join_and_part(self):
        calls = [("begin", 9)] + [("join", 7, 8), ("best",), ("part", 8, 7), ("best",)] * 99
        self.assertEqual(self.held(calls)[-1], [9] + list(range(9)))

    def test_each_later_call_on_nine_places_without_joins(self):
        for call in MANY:
            answered = self.held([("begin", 9)] + [call] * 399)
            self.assertEqual(answered[1:], [answered[1]] * 399)

    def test_each_later_call_on_a_row_of_nine(self):
        for call in MANY:
            answered = self.held([("begin", 1), ("line", 9), ("light", 8)] + [call] * 397)
            self.assertEqual(answered[3:], [answered[3]] * 397)

    def test_each_later_call_with_all_joined(self):
        for call in MANY:
            answered = self.held(laid(9, combinations(range(9), 2)) + [call] * 363)
            self.assertEqual(answered[37:], [answered[37]] * 363)

    def test_with_and_without_where_most_turns_are_needed(self):
        calls = [("begin", 9)] + [("with", 0, 1)] * 199 + [("join", 0, 1)] + [("without", 0, 1)] * 199
        self.assertEqual(self.held(calls)[1::200], [[8, 9], [9, 8]])

    def test_finish_with_something_lit(self):
        calls = [("begin", 9)] + [("light", 0), ("finish",)] * 9
        calls += [("finish",)] * (400 - len(calls))
        self.assertEqual(self.held(calls)[-1], [8, 9])

    def test_tree_on_seven_with_nine_joins(self):
        for joins in SLOW_TREES:
            answered = self.held(laid(7, joins) + [("tree",)] * 390)
            self.assertEqual(answered[10:], [answered[10]] * 390)
            self.assertGreater(answered[10][0], 0)

    def test_tree_between_join_and_part(self):
        calls = laid(7, SLOW_TREES[0])
        for p, q in SLOW_TREES[0] * 10:
            calls += [("part", p, q), ("tree",), ("join", p, q), ("tree",)]
        self.held(calls[:400])

    def test_random_lines_of_four_hundred(self):
        for seed in range(5):
            random = Random(seed)
            calls = [("begin", 9)]
            while len(calls) < 400:
                calls.append(random.choice([random_call(random, 9), ("turns",), ("best",), ("finish",)]))
            self.assertEqual(len(self.held(calls)), 400)


if __name__ == "__main__":
    unittest.main()
