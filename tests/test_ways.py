"""Point 4: within, far, root."""

import unittest
from itertools import combinations

from plain import TOP, ask, distances, every_object, laid, last, some_objects


class Within(unittest.TestCase):
    def test_none_is_the_place_itself(self):
        for p in range(9):
            self.assertEqual(last(("begin", 1), ("ring", 9), ("within", p, 0)), [1, p])

    def test_one_is_all_that_is_joined_with_it(self):
        self.assertEqual(last(*laid(6, [(4, 1), (0, 4), (5, 3)]), ("within", 4, 1)), [3, 0, 1, 4])
        self.assertEqual(last(*laid(6, [(4, 1), (0, 4), (5, 3)]), ("within", 2, 1)), [1, 2])

    def test_a_row_of_nine(self):
        for k in range(10):
            expected = list(range(max(0, 6 - k), min(8, 6 + k) + 1))
            self.assertEqual(last(("begin", 1), ("line", 9), ("within", 6, k)), [len(expected)] + expected)
            expected = list(range(min(8, k) + 1))
            self.assertEqual(last(("begin", 1), ("line", 9), ("within", 0, k)), [len(expected)] + expected)

    def test_more_than_any_way_has(self):
        for k in (8, 9, 10, 1000, TOP):
            self.assertEqual(last(("begin", 1), ("line", 9), ("within", 0, k)), [9] + list(range(9)))
            self.assertEqual(last(("begin", 9), ("within", 3, k)), [1, 3])
            self.assertEqual(last(*laid(5, [(4, 2), (2, 0)]), ("within", 0, k)), [3, 0, 2, 4])
            self.assertEqual(last(("begin", 1), ("within", 0, k)), [1, 0])

    def test_no_such_place(self):
        for size in range(1, 10):
            for missing in (size, size + 1, TOP):
                for k in (0, 1, 9, TOP):
                    self.assertEqual(last(("begin", size), ("within", missing, k)), [-2])

    def test_held_against_plain_distances(self):
        objects = [(size, joins) for size in range(1, 5) for joins in every_object(size)]
        for size, joins in objects + list(some_objects(41, range(5, 10), 60)):
            for p in range(size):
                far = distances(size, joins, p)
                for k in (0, 1, 2, 3, size - 1, size, TOP):
                    near = sorted(q for q in far if far[q] <= k)
                    self.assertEqual(last(*laid(size, joins), ("within", p, k)), [len(near)] + near)

    def test_changes_nothing(self):
        calls = laid(3, [(2, 1)]) + [("light", 0), ("within", 1, 1), ("within", 3, 1), ("state",)]
        self.assertEqual(ask(*calls)[3:], [[2, 1, 2], [-2], [3, 1, 1, 2, 0]])


class Far(unittest.TestCase):
    def test_from_a_place_to_itself(self):
        for p in range(9):
            self.assertEqual(last(("begin", 9), ("far", p, p)), [0])
            self.assertEqual(last(("begin", 1), ("ring", 9), ("far", p, p)), [0])

    def test_along_a_row_and_round_a_ring(self):
        for p in range(9):
            for q in range(9):
                self.assertEqual(last(("begin", 1), ("line", 9), ("far", p, q)), [abs(p - q)])
                self.assertEqual(last(("begin", 1), ("ring", 9), ("far", p, q)), [min((p - q) % 9, (q - p) % 9)])

    def test_all_joined_with_all(self):
        for p, q in combinations(range(9), 2):
            self.assertEqual(last(*laid(9, combinations(range(9), 2)), ("far", p, q)), [1])

    def test_to_another_part(self):
        for p, q in combinations(range(4), 2):
            self.assertEqual(last(("begin", 4), ("far", p, q)), [-33])
        self.assertEqual(last(*laid(5, [(0, 2), (2, 4), (1, 3)]), ("far", 4, 1)), [-33])
        self.assertEqual(last(*laid(5, [(0, 2), (2, 4), (1, 3)]), ("far", 4, 0)), [2])

    def test_no_such_place(self):
        for size in range(1, 10):
            for missing in (size, size + 1, TOP):
                for pair in ((0, missing), (missing, 0), (missing, missing)):
                    self.assertEqual(last(("begin", size), ("far", *pair)), [-2])

    def test_behind_join_and_part(self):
        calls = [("begin", 1), ("line", 5), ("far", 0, 4), ("join", 4, 1), ("far", 0, 4), ("part", 0, 1)]
        self.assertEqual(ask(*calls, ("far", 0, 4))[2::2], [[4], [2], [-33]])

    def test_held_against_plain_distances(self):
        objects = [(size, joins) for size in range(1, 5) for joins in every_object(size)]
        for size, joins in objects + list(some_objects(42, range(5, 10), 60)):
            for p in range(size):
                far = distances(size, joins, p)
                calls = laid(size, joins) + [("far", p, q) for q in range(size)]
                self.assertEqual(ask(*calls)[-size:], [[far.get(q, -33)] for q in range(size)])

    def test_changes_nothing(self):
        calls = laid(3, [(2, 1)]) + [("light", 0), ("far", 1, 2), ("far", 0, 1), ("far", 3, 3), ("state",)]
        self.assertEqual(ask(*calls)[3:], [[1], [-33], [-2], [3, 1, 1, 2, 0]])


class Root(unittest.TestCase):
    def test_at_the_edges(self):
        known = {0: 0, 1: 1, 2: 2, 3: 2, 4: 2, 5: 3, 9: 3, 10: 4, 961: 31, 962: 32, 1000: 32}
        for number, root in known.items():
            self.assertEqual(last(("begin", 1), ("root", number)), [root])

    def test_every_one_is_the_least(self):
        answered = []
        for start in range(0, 1001, 300):
            calls = [("root", number) for number in range(start, min(start + 300, 1001))]
            answered += ask(("begin", 2), *calls)[1:]
        self.assertEqual(len(answered), 1001)
        for number, (root,) in enumerate(answered):
            self.assertGreaterEqual(root * root, number)
            self.assertTrue(root == 0 or (root - 1) ** 2 < number)

    def test_above_a_thousand(self):
        for number in (1001, 1024, 1025, 4294967294, TOP):
            self.assertEqual(last(("begin", 9), ("root", number)), [-22])

    def test_hangs_on_nothing_but_the_number(self):
        for before in ([("begin", 1)], laid(9, [(0, 8)]) + [("light", 3)], [("begin", 1), ("ring", 7)]):
            self.assertEqual(ask(*before, ("root", 50), ("root", 1001))[-2:], [[8], [-22]])

    def test_changes_nothing(self):
        calls = laid(3, [(2, 1)]) + [("light", 0), ("root", 2), ("root", TOP), ("state",)]
        self.assertEqual(ask(*calls)[3:], [[2], [-22], [3, 1, 1, 2, 0]])


if __name__ == "__main__":
    unittest.main()
