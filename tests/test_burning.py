"""Point 2: light, out, burns, left."""

import unittest
from itertools import product

from plain import TOP, ask, burn, laid, last


class Light(unittest.TestCase):
    def test_first_what_burns_goes_over_then_one_is_lit(self):
        calls = [("begin", 1), ("line", 9), ("light", 4), ("light", 0), ("light", 8)]
        self.assertEqual(ask(*calls, ("burns",))[2:], [[1], [4], [8], [8, 0, 1, 2, 3, 4, 5, 6, 8]])

    def test_what_is_lit_goes_over_a_turn_later(self):
        self.assertEqual(ask(("begin", 1), ("line", 2), ("light", 0), ("burns",))[2:], [[1], [1, 0]])

    def test_a_place_that_burns_may_be_lit(self):
        calls = [("begin", 1), ("line", 4), ("light", 0), ("light", 0), ("light", 1), ("light", 0)]
        self.assertEqual(ask(*calls)[2:], [[1], [2], [3], [4]])

    def test_a_place_that_burns_counts_as_lit(self):
        calls = [("begin", 2), ("light", 0), ("light", 0), ("light", 1), ("burns",), ("out",)]
        self.assertEqual(ask(*calls)[1:], [[1], [1], [-28], [1, 0], [2]])

    def test_as_many_as_there_are_places(self):
        for size in range(1, 10):
            calls = [("begin", size)] + [("light", p) for p in range(size)] + [("light", 0)]
            self.assertEqual(ask(*calls)[1:], [[p + 1] for p in range(size)] + [[-28]])

    def test_no_such_place(self):
        for size in range(1, 10):
            for missing in (size, size + 1, TOP):
                self.assertEqual(last(("begin", size), ("light", missing)), [-2])

    def test_no_such_place_is_answered_before_too_many(self):
        for missing in (1, 9, 10, TOP):
            self.assertEqual(last(("begin", 1), ("light", 0), ("light", missing)), [-2])

    def test_refused_is_no_turn(self):
        for missing in (3, 9, TOP):
            calls = [("begin", 1), ("line", 3), ("light", 0), ("light", missing), ("burns",), ("out",)]
            self.assertEqual(ask(*calls)[3:], [[-2], [1, 0], [1]])

    def test_too_many_is_no_turn(self):
        calls = [("begin", 1), ("line", 3)] + [("light", 0)] * 3 + [("join", 0, 2), ("part", 1, 2)]
        calls += [("part", 0, 1), ("light", 1), ("burns",), ("out",)]
        self.assertEqual(ask(*calls)[-3:], [[-28], [2, 0, 2], [3]])


class Out(unittest.TestCase):
    def test_nothing_lit(self):
        self.assertEqual(ask(("begin", 3), ("out",), ("out",))[1:], [[0], [0]])

    def test_how_many_were_lit(self):
        for count in range(10):
            calls = [("begin", 1), ("line", 9)] + [("light", 4)] * count + [("out",), ("burns",), ("out",)]
            self.assertEqual(ask(*calls)[-3:], [[count], [0], [0]])

    def test_keeps_the_joins(self):
        calls = [("begin", 1), ("line", 3), ("light", 0), ("out",), ("light", 1), ("light", 1), ("part", 0, 1)]
        self.assertEqual(ask(*calls)[3:], [[1], [1], [3], [1]])

    def test_as_many_may_be_lit_again(self):
        self.assertEqual(ask(("begin", 1), ("light", 0), ("light", 0), ("out",), ("light", 0))[2:], [[-28], [1], [1]])


class BurnsAndLeft(unittest.TestCase):
    def test_nothing_lit(self):
        self.assertEqual(ask(("begin", 3), ("burns",), ("left",))[1:], [[0], [3, 0, 1, 2]])

    def test_all_burns(self):
        self.assertEqual(ask(("begin", 1), ("light", 0), ("burns",), ("left",))[2:], [[1, 0], [0]])

    def test_rising_in_whatever_order_they_were_lit(self):
        calls = [("begin", 9)] + [("light", p) for p in (7, 2, 8, 0)] + [("burns",), ("left",)]
        self.assertEqual(ask(*calls)[-2:], [[4, 0, 2, 7, 8], [5, 1, 3, 4, 5, 6]])

    def test_by_the_joins_there_are(self):
        calls = [("begin", 3), ("light", 0), ("light", 2), ("burns",), ("join", 0, 1), ("burns",)]
        calls += [("left",), ("part", 0, 1), ("burns",), ("left",)]
        self.assertEqual(
            ask(*calls)[3:],
            [[2, 0, 2], [1], [3, 0, 1, 2], [0], [0], [2, 0, 2], [1, 1]],
        )

    def test_two_parts(self):
        calls = laid(5, [(0, 1), (1, 2), (3, 4)]) + [("light", 0)] * 4 + [("burns",), ("left",)]
        self.assertEqual(ask(*calls)[-2:], [[3, 0, 1, 2], [2, 3, 4]])

    def test_all_joined_with_all(self):
        joins = [(p, q) for q in range(9) for p in range(q)]
        self.assertEqual(ask(*laid(9, joins), ("light", 5), ("light", 5), ("left",))[-3:], [[1], [9], [0]])

    def test_every_row_on_small_objects(self):
        for joins in ([], [(0, 1)], [(0, 3), (1, 2)], [(0, 1), (1, 2), (2, 3)], [(0, 3), (1, 3), (2, 3)]):
            for length in range(5):
                for row in product(range(4), repeat=length):
                    burning = sorted(burn(joins, row))
                    left = [p for p in range(4) if p not in burning]
                    calls = laid(4, joins) + [("light", p) for p in row] + [("burns",), ("left",)]
                    expected = [[len(burning)] + burning, [len(left)] + left]
                    self.assertEqual(ask(*calls)[-2:], expected, (joins, row))


if __name__ == "__main__":
    unittest.main()
