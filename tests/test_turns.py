"""Point 3: turns and best."""

import unittest
from itertools import combinations
from math import isqrt

from plain import ask, best_of, burn, distances, every_object, laid, last, plain_best, some_objects

# By hand, from the words: the fewest turns and the row told.
KNOWN = (
    ("one place", 1, [], [0]),
    ("two apart", 2, [], [0, 1]),
    ("two joined", 2, [(0, 1)], [0, 0]),
    ("a row of three", 3, [(0, 1), (1, 2)], [0, 2]),
    ("a ring of three", 3, [(0, 1), (1, 2), (0, 2)], [0, 0]),
    ("a star of four", 4, [(3, 0), (3, 1), (3, 2)], [3, 0]),
    ("two parts", 4, [(0, 1), (1, 2)], [1, 3]),
    ("two pairs", 4, [(0, 1), (2, 3)], [0, 2, 0]),
)


class Known(unittest.TestCase):
    def test_by_hand(self):
        for name, size, joins, row in KNOWN:
            self.assertEqual(best_of(size, joins), row, name)

    def test_no_joins(self):
        for size in range(1, 10):
            self.assertEqual(best_of(size, []), list(range(size)))

    def test_all_joined_with_all(self):
        for size in range(2, 10):
            self.assertEqual(best_of(size, list(combinations(range(size), 2))), [0, 0])

    def test_a_row_of_nine(self):
        self.assertEqual(ask(("begin", 1), ("line", 9), ("turns",), ("best",))[2:], [[3], [3, 2, 6, 8]])

    def test_a_tree_already(self):
        self.assertEqual(best_of(7, [(0, 1), (0, 2), (1, 3), (1, 4), (2, 5), (2, 6)]), [0, 0, 0])

    def test_a_join_that_changes_nothing(self):
        calls = [("begin", 1), ("line", 9), ("best",), ("join", 0, 2), ("best",), ("part", 2, 0), ("best",)]
        self.assertEqual(ask(*calls)[2:], [[3, 2, 6, 8], [9], [3, 2, 6, 8], [8], [3, 2, 6, 8]])

    def test_a_join_that_changes_the_row_alone(self):
        calls = [("begin", 1), ("line", 9), ("best",), ("join", 0, 4), ("best",)]
        self.assertEqual(ask(*calls)[2:], [[3, 2, 6, 8], [9], [3, 0, 6, 8]])

    def test_what_is_lit_does_not_count(self):
        calls = [("begin", 1), ("line", 9), ("best",), ("turns",)] + [("light", 0)] * 9 + [("best",), ("turns",)]
        answered = ask(*calls)
        self.assertEqual(answered[2:4], answered[-2:])

    def test_turns_and_best_light_nothing(self):
        calls = [("begin", 1), ("line", 4), ("light", 0), ("turns",), ("best",), ("burns",), ("light", 3)]
        self.assertEqual(ask(*calls)[5:], [[1, 0], [3]])

    def test_joins_and_parts_count_at_once(self):
        calls = [("begin", 3), ("turns",), ("join", 0, 1), ("turns",), ("part", 1, 0), ("turns",), ("line", 9)]
        calls += [("turns",), ("ring", 3), ("turns",), ("begin", 8), ("turns",)]
        self.assertEqual(ask(*calls)[1::2], [[3], [2], [3], [3], [2], [8]])


class Roots(unittest.TestCase):
    def root(self, size):
        return isqrt(size - 1) + 1

    def test_rows(self):
        for size in range(1, 10):
            turns, best = ask(("begin", 1), ("line", size), ("turns",), ("best",))[2:]
            self.assertEqual(turns, [self.root(size)])
            self.assertEqual(best[:1], turns)

    def test_rings(self):
        for size in range(3, 10):
            turns, best = ask(("begin", 1), ("ring", size), ("turns",), ("best",))[2:]
            self.assertEqual(turns, [self.root(size)])
            self.assertEqual(best[:1], turns)

    def test_rows_and_rings_by_a_plain_search(self):
        for size in range(1, 10):
            joins = tuple((p, p + 1) for p in range(size - 1))
            row = list(plain_best(size, joins))
            self.assertEqual(last(("begin", 1), ("line", size), ("best",)), [len(row)] + row)
            if size >= 3:
                row = list(plain_best(size, joins + ((0, size - 1),)))
                self.assertEqual(last(("begin", 1), ("ring", size), ("best",)), [len(row)] + row)


class PlainSearch(unittest.TestCase):
    def test_every_object_of_one_to_four_places(self):
        for size in range(1, 5):
            for joins in every_object(size):
                self.assertEqual(best_of(size, joins), list(plain_best(size, joins)), (size, joins))

    def test_some_of_five_and_six(self):
        for size, joins in some_objects(1, (5, 6), 60):
            self.assertEqual(best_of(size, joins), list(plain_best(size, joins)), (size, joins))

    def test_some_of_seven_to_nine_that_need_few(self):
        held = 0
        for size, joins in some_objects(2, (7, 8, 9), 60):
            row = best_of(size, joins)
            if len(row) <= 4:
                held += 1
                self.assertEqual(row, list(plain_best(size, joins)), (size, joins))
        self.assertGreater(held, 20)

    def test_nine_that_need_many(self):
        # Pairs and single places: four pairs and one place need five, the pairs lit ahead of it.
        for count, turns in enumerate((9, 8, 7, 6, 5)):
            joins = tuple((2 * p, 2 * p + 1) for p in range(count))
            row = best_of(9, joins)
            self.assertEqual(burn(joins, row), set(range(9)))
            self.assertEqual(len(row), turns)
            for at, place in enumerate(row):
                for lesser in range(place):
                    self.assertFalse(self.can_go_on(9, joins, row[:at] + [lesser], len(row)))

    def can_go_on(self, size, joins, row, length):
        """Whether some row of that length with this beginning burns all; balls taken from the distances."""
        covered = set()
        for at, place in enumerate(row):
            far = distances(size, joins, place)
            covered |= {p for p in far if far[p] <= length - 1 - at}
        masks = {frozenset(covered)}
        for at in range(len(row), length):
            wider = set()
            for place in range(size):
                far = distances(size, joins, place)
                ball = {p for p in far if far[p] <= length - 1 - at}
                wider |= {mask | ball for mask in masks}
            masks = wider
        return frozenset(range(size)) in masks


if __name__ == "__main__":
    unittest.main()
