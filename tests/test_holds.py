"""What holds, a to f, and where it usually breaks."""

import unittest
from itertools import combinations, product
from random import Random

from plain import (
    TOP,
    ask,
    best_of,
    distances,
    every_object,
    first_of,
    how_many_parts,
    laid,
    last,
    plain_answers,
    some_objects,
    trees_of,
)


class A(unittest.TestCase):
    """By no row of places lit does all burn in fewer turns, and by the one told just then."""

    def test_the_row_told_burns_all_when_it_is_lit(self):
        for size, joins in some_objects(3, range(1, 10), 150):
            row = best_of(size, joins)
            calls = laid(size, joins) + [("row", row), ("row", row[:-1])] + [("light", p) for p in row]
            answered = ask(*calls, ("burns",), ("left",), ("finish",))
            self.assertEqual(answered[-4:], [[size], [size] + list(range(size)), [0], [0, len(row)]])
            self.assertEqual(answered[len(joins) + 1], [1, size])
            self.assertEqual(answered[len(joins) + 2][0], 0)

    def test_no_shorter_row_burns_all(self):
        for size, joins in some_objects(4, range(1, 8), 60):
            turns = len(best_of(size, joins))
            if size ** (turns - 1) <= 3000:
                self.assertIsNone(first_of(size, joins, turns - 1))
            for k in range(turns):
                self.assertEqual(last(*laid(size, joins), ("can", k)), [-33])


class B(unittest.TestCase):
    """A row, and a ring, need as many turns as the root of how many places, rounded up."""

    def test_rows_and_rings_by_the_call_root(self):
        for size in range(1, 10):
            calls = [("begin", 1), ("line", size), ("turns",), ("root", size)]
            if size >= 3:
                calls += [("ring", size), ("turns",)]
            answered = ask(*calls)
            self.assertEqual(answered[2], answered[3])
            self.assertEqual(answered[-1], answered[3])

    def test_as_they_are_known(self):
        turns = [ask(("begin", 1), ("line", size), ("turns",))[-1][0] for size in range(1, 10)]
        self.assertEqual(turns, [1, 2, 2, 2, 3, 3, 3, 3, 3])
        turns = [ask(("begin", 1), ("ring", size), ("turns",))[-1][0] for size in range(3, 10)]
        self.assertEqual(turns, [2, 2, 3, 3, 3, 3, 3])


class C(unittest.TestCase):
    """As few as by the best tree in it."""

    def test_the_tree_told_needs_as_few(self):
        random = Random(61)
        for _ in range(200):
            size = random.randrange(1, 8)
            pairs = list(combinations(range(size), 2))
            joins = random.sample(pairs, random.randrange(min(9, len(pairs)) + 1))
            told = last(*laid(size, joins), ("tree",))
            tree = list(zip(told[1::2], told[2::2]))
            self.assertEqual(told[0], size - how_many_parts(size, joins))
            self.assertEqual(len(set(tree)), told[0])
            self.assertLessEqual(set(tree), {(min(pair), max(pair)) for pair in joins})
            self.assertEqual(how_many_parts(size, tree), how_many_parts(size, joins))
            self.assertEqual(len(best_of(size, tree)), len(best_of(size, joins)))

    def test_the_best_of_all_trees_needs_as_few(self):
        random = Random(62)
        for _ in range(12):
            size = random.randrange(5, 10)
            joins = tuple(random.sample(list(combinations(range(size), 2)), size + 1))
            fewest = min(len(best_of(size, tree)) for tree in trees_of(size, joins))
            self.assertEqual(len(best_of(size, joins)), fewest, joins)


class D(unittest.TestCase):
    """A join more never makes it longer; all burns just if each place lies near enough to one of those lit."""

    def test_a_join_more_never_makes_it_longer(self):
        for size, joins in some_objects(5, range(2, 10), 60):
            turns = len(best_of(size, joins))
            for pair in combinations(range(size), 2):
                if pair not in joins:
                    self.assertLessEqual(len(best_of(size, joins + (pair,))), turns)
                    joined, now = last(*laid(size, joins), ("with", *pair))
                    self.assertLessEqual(joined, now)
                    self.assertEqual(now, turns)

    def test_a_join_less_never_makes_it_shorter(self):
        for size, joins in some_objects(8, range(2, 10), 60):
            for pair in joins:
                parted, now = last(*laid(size, joins), ("without", *pair))
                self.assertGreaterEqual(parted, now)

    def test_all_burns_just_if_each_lies_near_enough_to_one_lit(self):
        for joins in every_object(3):
            for row in product(range(3), repeat=3):
                near = set()
                for at, place in enumerate(row):
                    far = distances(3, joins, place)
                    near |= {p for p in far if far[p] <= 2 - at}
                answered = ask(*laid(3, joins), *[("light", p) for p in row], ("row", row))
                self.assertEqual(answered[-2], [len(near)], (joins, row))
                self.assertEqual(answered[-1], [int(len(near) == 3), len(near)], (joins, row))

    def test_the_same_by_the_call_within(self):
        random = Random(63)
        for size, joins in some_objects(63, range(4, 10), 150):
            row = [random.randrange(size) for _ in range(random.randrange(1, 7))]
            calls = [("within", place, len(row) - 1 - at) for at, place in enumerate(row)]
            answered = ask(*laid(size, joins), *calls, ("row", row))
            near = {p for within in answered[-1 - len(row):-1] for p in within[1:]}
            self.assertEqual(answered[-1], [int(len(near) == size), len(near)])


class E(unittest.TestCase):
    """In no fewer turns than there are parts; in one more at most than the farthest is from wherever one begins."""

    def test_no_fewer_than_there_are_parts(self):
        for size, joins in some_objects(6, range(1, 10), 200):
            turns, parts = ask(*laid(size, joins), ("turns",), ("parts",))[-2:]
            self.assertGreaterEqual(turns[0], how_many_parts(size, joins))
            self.assertEqual(parts[0], how_many_parts(size, joins))

    def test_one_more_at_most_than_the_farthest_is_from_wherever_one_begins(self):
        held = 0
        for size, joins in some_objects(7, range(1, 10), 300):
            if how_many_parts(size, joins) == 1:
                held += 1
                turns = len(best_of(size, joins))
                for start in range(size):
                    far = ask(*laid(size, joins), *[("far", start, p) for p in range(size)])[-size:]
                    self.assertEqual([[distances(size, joins, start)[p]] for p in range(size)], far)
                    self.assertLessEqual(turns, 1 + max(far)[0])
        self.assertGreater(held, 100)


# On the places 0 to 4, joined 0 1, 1 2, 2 3, 0 4, 0 2, with five lit.
REFUSED = (
    [(("begin", n), -22) for n in (0, 10, TOP)]
    + [(("line", n), -22) for n in (0, 10, TOP)]
    + [(("ring", n), -22) for n in (0, 1, 2, 10, TOP)]
    + [((name, p, q), -2) for name in ("join", "part", "with", "without", "far") for p, q in ((5, 0), (0, TOP), (9, 9))]
    + [((name, 1, 1), -22) for name in ("join", "with")]
    + [((name, p, q), -17) for name in ("join", "with") for p, q in ((2, 0), (0, 4), (4, 0))]
    + [((name, p, q), -6) for name in ("part", "without") for p, q in ((0, 3), (4, 3), (2, 2))]
    + [(("light", 5), -2), (("light", TOP), -2), (("light", 0), -28)]
    + [(("row", places), -22) for places in ([5], [0, 1, TOP], [0] * 10, [1] * 11, [5] * 11)]
    + [(("can", k), -22) for k in (10, TOP)]
    + [(("can", k), -33) for k in (0, 1)]
    + [(("within", p, k), -2) for p in (5, TOP) for k in (0, 1, TOP)]
    + [(("root", n), -22) for n in (1001, TOP)]
)


class F(unittest.TestCase):
    """What's refused changes nothing."""

    def test_each_refusal_on_a_full_object(self):
        before = [("begin", 1), ("ring", 5), ("join", 0, 2), ("part", 3, 4)] + [("light", 1)] * 5
        after = [("state",), ("burns",), ("left",), ("best",), ("finish",), ("parts",), ("tree",), ("join", 3, 4)]
        after += [("out",), ("light", 4), ("light", 4), ("burns",), ("state",)]
        expected = ask(*before, *after)[len(before):]
        for call, refusal in REFUSED:
            answered = ask(*before, call, *after)[len(before):]
            self.assertEqual(answered[0], [refusal], call)
            self.assertEqual(answered[1:], expected, call)

    def test_too_many_for_a_tree(self):
        before = [("begin", 1), ("ring", 8), ("light", 3)]
        after = [("state",), ("burns",), ("light", 3), ("state",)]
        answered = ask(*before, ("tree",), *after)[3:]
        self.assertEqual(answered[0], [-28])
        self.assertEqual(answered[1:], ask(*before, *after)[3:])

    def test_not_begun_begins_nothing(self):
        refused = [("line", 3), ("ring", 3), ("join", 0, 1), ("light", 0), ("row", [0]), ("root", 4), ("state",)]
        for call in refused:
            answered = ask(call, ("state",), ("begin", 2), ("state",))
            self.assertEqual(answered, [[-11], [-11], [0], [2, 0]], call)


def looks(size):
    """Every call that changes nothing, on an object of that size, with numbers in and out of range."""
    calls = [("burns",), ("left",), ("turns",), ("best",), ("finish",), ("parts",), ("tree",), ("state",)]
    calls += [("row", places) for places in ([], [0], [0] * 9, [0] * 10, [size - 1, 0, size // 2], [0, size])]
    calls += [("can", k) for k in (0, 1, 2, 3, 4, 9, 10, TOP)]
    calls += [("root", n) for n in (0, 1, size, 1000, 1001)]
    for p in range(size + 1):
        calls += [("within", p, k) for k in (0, 1, 2, 8, TOP)]
        calls += [(name, p, q) for name in ("with", "without", "far") for q in range(size + 1)]
    return calls


class WhereItUsuallyBreaks(unittest.TestCase):
    def held(self, size, *before):
        # In two, as some objects have more to look at than a list has calls.
        for some in (looks(size)[::2], looks(size)[1::2]):
            calls = [*before, *some, ("state",)]
            self.assertLessEqual(len(calls), 400)
            for call, told, due in zip(calls, ask(*calls), plain_answers(calls)):
                self.assertEqual(told, due, (before, call))

    def test_one_place(self):
        self.held(1, ("begin", 1))
        self.held(1, ("begin", 4), ("line", 1))
        self.held(1, ("begin", 1), ("light", 0))
        self.held(1, ("begin", 1), ("light", 0), ("light", 0))

    def test_no_joins(self):
        for size in range(1, 6):
            self.held(size, ("begin", size))
            self.held(size, ("begin", size), ("light", size - 1))

    def test_all_joined_with_all(self):
        for size in (2, 3, 4, 5, 9):
            self.held(size, *laid(size, combinations(range(size), 2)))
        self.held(4, *laid(4, combinations(range(4), 2)), ("light", 3), ("light", 0))

    def test_a_row_of_nine(self):
        self.held(9, ("begin", 1), ("line", 9))
        self.held(9, ("begin", 1), ("line", 9), ("light", 4))

    def test_a_ring_of_three(self):
        self.held(3, ("begin", 1), ("ring", 3))
        self.held(3, ("begin", 1), ("ring", 3), ("light", 1))

    def test_a_place_lit_that_burns(self):
        self.held(4, ("begin", 1), ("line", 4), ("light", 1), ("light", 1))
        self.held(4, ("begin", 1), ("line", 4), ("light", 1), ("light", 2))

    def test_two_parts(self):
        self.held(5, *laid(5, [(3, 1), (2, 0), (4, 2)]))
        self.held(6, *laid(6, [(0, 1), (1, 2), (0, 2), (3, 4), (4, 5), (3, 5)]), ("light", 4))

    def test_a_tree_already(self):
        self.held(6, *laid(6, [(4, 0), (0, 1), (3, 1), (5, 4), (2, 1)]))
        self.held(5, *laid(5, [(4, 0), (4, 1), (4, 2), (4, 3)]), ("light", 0))

    def test_a_join_that_changes_nothing(self):
        self.held(4, ("begin", 1), ("line", 4), ("join", 0, 2))
        self.held(4, ("begin", 1), ("line", 4), ("join", 0, 2), ("join", 2, 0), ("part", 2, 0))

    def test_more_lit_than_need_be(self):
        self.held(4, ("begin", 1), ("line", 4), ("light", 1), ("light", 3), ("light", 0), ("light", 2), ("light", 0))
        self.held(2, ("begin", 1), ("line", 2), ("light", 1), ("light", 1))


if __name__ == "__main__":
    unittest.main()
