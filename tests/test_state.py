"""Point 1: parts and state."""

import unittest
from itertools import combinations
from random import Random

from plain import TOP, ask, every_object, laid, last, parts_of, some_objects


class Parts(unittest.TestCase):
    def test_no_joins(self):
        for size in range(1, 10):
            self.assertEqual(last(("begin", size), ("parts",)), [size] + [1] * size)

    def test_a_row_and_a_ring(self):
        for size in range(1, 10):
            self.assertEqual(last(("begin", 1), ("line", size), ("parts",)), [1, size])
            if size >= 3:
                self.assertEqual(last(("begin", 1), ("ring", size), ("parts",)), [1, size])

    def test_all_joined_with_all(self):
        self.assertEqual(last(*laid(9, combinations(range(9), 2)), ("parts",)), [1, 9])

    def test_by_the_least_place_not_by_size_nor_as_told(self):
        self.assertEqual(last(*laid(6, [(3, 4), (4, 1)]), ("parts",)), [4, 1, 3, 1, 1])
        self.assertEqual(last(*laid(6, [(4, 3), (0, 5)]), ("parts",)), [4, 2, 1, 1, 2])
        self.assertEqual(last(*laid(9, [(8, 0), (7, 1), (6, 1), (2, 5), (5, 4), (4, 3)]), ("parts",)), [3, 2, 3, 4])

    def test_parts_that_come_together_late(self):
        self.assertEqual(last(*laid(5, [(0, 4), (3, 4), (1, 3)]), ("parts",)), [2, 4, 1])

    def test_behind_join_and_part(self):
        calls = [("begin", 1), ("line", 5), ("part", 1, 2), ("parts",), ("part", 3, 4), ("parts",), ("join", 4, 0)]
        self.assertEqual(ask(*calls, ("parts",))[3::2], [[2, 2, 3], [3, 2, 2, 1], [2, 3, 2]])

    def test_what_is_lit_does_not_count(self):
        calls = laid(4, [(0, 3)]) + [("light", 1), ("light", 2), ("parts",)]
        self.assertEqual(last(*calls), [3, 2, 1, 1])

    def test_held_against_a_plain_search(self):
        objects = [(size, joins) for size in range(1, 5) for joins in every_object(size)]
        for size, joins in objects + list(some_objects(11, range(5, 10), 200)):
            sizes = [len(part) for part in parts_of(size, joins)]
            self.assertEqual(last(*laid(size, joins), ("parts",)), [len(sizes)] + sizes, joins)


class State(unittest.TestCase):
    def test_begun(self):
        for size in range(1, 10):
            self.assertEqual(last(("begin", size), ("state",)), [size, 0])

    def test_a_row(self):
        self.assertEqual(last(("begin", 1), ("line", 1), ("state",)), [1, 0])
        self.assertEqual(last(("begin", 1), ("line", 4), ("state",)), [4, 3, 0, 1, 1, 2, 2, 3])

    def test_a_ring_the_last_with_the_first_at_the_end(self):
        self.assertEqual(last(("begin", 1), ("ring", 3), ("state",)), [3, 3, 0, 1, 1, 2, 0, 2])
        self.assertEqual(last(("begin", 1), ("ring", 4), ("state",)), [4, 4, 0, 1, 1, 2, 2, 3, 0, 3])

    def test_as_they_were_told_each_the_lesser_first(self):
        calls = laid(9, [(8, 3), (0, 2), (2, 1), (0, 1), (7, 8)]) + [("state",)]
        self.assertEqual(last(*calls), [9, 5, 3, 8, 0, 2, 1, 2, 0, 1, 7, 8])

    def test_joined_again_is_told_last(self):
        calls = laid(4, [(1, 0), (2, 1), (3, 2)]) + [("part", 0, 1), ("state",), ("join", 0, 1), ("state",)]
        self.assertEqual(ask(*calls)[-3:], [[4, 2, 1, 2, 2, 3], [3], [4, 3, 1, 2, 2, 3, 0, 1]])

    def test_parted_leaves_the_others_in_their_order(self):
        calls = [("begin", 1), ("ring", 5), ("part", 2, 1), ("part", 4, 0), ("join", 4, 2), ("state",)]
        self.assertEqual(last(*calls), [5, 4, 0, 1, 2, 3, 3, 4, 2, 4])

    def test_lit_in_order_without_how_many(self):
        calls = [("begin", 5)] + [("light", p) for p in (4, 0, 3)] + [("state",)]
        self.assertEqual(last(*calls), [5, 0, 4, 0, 3])

    def test_a_place_lit_twice(self):
        calls = [("begin", 1), ("line", 3), ("light", 2), ("light", 2), ("light", 0), ("state",)]
        self.assertEqual(last(*calls), [3, 2, 0, 1, 1, 2, 2, 2, 0])

    def test_what_burns_but_is_not_lit_is_not_told(self):
        calls = [("begin", 1), ("ring", 3), ("light", 1), ("light", 1), ("burns",), ("state",)]
        self.assertEqual(ask(*calls)[-2:], [[3, 0, 1, 2], [3, 3, 0, 1, 1, 2, 0, 2, 1, 1]])

    def test_out_leaves_the_joins(self):
        calls = laid(3, [(2, 0)]) + [("light", 1), ("out",), ("state",)]
        self.assertEqual(last(*calls), [3, 1, 0, 2])

    def test_begin_line_and_ring_leave_nothing(self):
        before = laid(6, [(5, 0)]) + [("light", 1)]
        self.assertEqual(last(*before, ("begin", 2), ("state",)), [2, 0])
        self.assertEqual(last(*before, ("line", 2), ("state",)), [2, 1, 0, 1])
        self.assertEqual(last(*before, ("ring", 3), ("state",)), [3, 3, 0, 1, 1, 2, 0, 2])

    def test_refused_is_not_in_it(self):
        before = laid(3, [(2, 1)]) + [("light", 0)] * 3
        refused = [("begin", 0), ("line", 10), ("ring", 2), ("join", 1, 2), ("join", 0, 0), ("join", 0, 3)]
        refused += [("part", 0, 1), ("part", 3, 0), ("light", 1), ("light", TOP)]
        for call in refused:
            answered = ask(*before, call, ("state",))
            self.assertLess(answered[-2][0], 0)
            self.assertEqual(answered[-1], [3, 1, 1, 2, 0, 0, 0], call)

    def test_all_it_tells_makes_the_same_object(self):
        random = Random(12)
        for size, joins in some_objects(12, range(1, 10), 100):
            joins = random.sample(joins, len(joins))
            lit = [random.randrange(size) for _ in range(random.randrange(size + 1))]
            told = last(*laid(size, joins), *[("light", p) for p in lit], ("state",))
            self.assertEqual(told[:2], [size, len(joins)])
            pairs = told[2:2 + 2 * len(joins)]
            self.assertEqual(list(zip(pairs[::2], pairs[1::2])), joins)
            self.assertEqual(told[2 + 2 * len(joins):], lit)


if __name__ == "__main__":
    unittest.main()
