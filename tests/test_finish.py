"""Point 2: finish."""

import unittest
from itertools import product
from random import Random

from plain import ask, best_of, burn, every_object, laid, last, plain_finish, some_objects


def finish(size, joins, lit):
    return last(*laid(size, joins), *[("light", p) for p in lit], ("finish",))


class Finish(unittest.TestCase):
    def test_nothing_lit_is_the_fewest_turns(self):
        for size, joins in some_objects(21, range(1, 10), 100):
            self.assertEqual(finish(size, joins, []), [len(best_of(size, joins)), 0])

    def test_all_burns(self):
        self.assertEqual(finish(1, [], [0]), [0, 1])
        self.assertEqual(finish(3, [(0, 1), (0, 2)], [0, 0]), [0, 2])
        self.assertEqual(finish(3, [], [2, 0, 1]), [0, 3])

    def test_all_burns_and_more_is_lit_than_need_be(self):
        self.assertEqual(finish(3, [(0, 1), (0, 2)], [0, 0, 0]), [0, 3])

    def test_what_burns_goes_over_in_each_turn_more(self):
        line = [(p, p + 1) for p in range(8)]
        self.assertEqual(finish(9, line, [4]), [3, 1])
        self.assertEqual(finish(9, line, [2]), [2, 1])
        self.assertEqual(finish(9, line, [2, 6]), [1, 2])
        self.assertEqual(finish(9, line, [2, 6, 8]), [0, 3])
        self.assertEqual(finish(9, line, [0]), [3, 1])

    def test_the_place_of_the_last_turn_burns_itself_alone(self):
        self.assertEqual(finish(3, [], [0]), [2, 1])
        self.assertEqual(finish(4, [(0, 1), (2, 3)], [0, 0]), [2, 2])

    def test_where_what_burns_would_do_it_alone(self):
        calls = [("begin", 1), ("line", 2), ("light", 0), ("finish",)]
        self.assertEqual(last(*calls), [1, 1])

    def test_lit_in_vain_counts_as_lit(self):
        self.assertEqual(finish(2, [], [0, 0]), [1, 2])
        self.assertEqual(finish(4, [], [3, 3, 3, 3]), [3, 4])

    def test_by_the_joins_there_are(self):
        calls = [("begin", 1), ("line", 4), ("light", 1), ("light", 1), ("finish",), ("part", 1, 2), ("finish",)]
        calls += [("join", 1, 3), ("finish",), ("out",), ("finish",)]
        self.assertEqual(ask(*calls)[4::2], [[1, 2], [2, 2], [1, 2], [2, 0]])

    def test_along_the_row_told_one_less_each_turn(self):
        for size, joins in some_objects(22, range(1, 10), 60):
            row = best_of(size, joins)
            for lit in range(len(row) + 1):
                self.assertEqual(finish(size, joins, row[:lit]), [len(row) - lit, lit], joins)

    def test_every_row_lit_on_every_object_of_one_to_three_places(self):
        for size in range(1, 4):
            for joins in every_object(size):
                for length in range(size + 1):
                    for lit in product(range(size), repeat=length):
                        self.held(size, joins, lit)

    def test_some_rows_lit_on_some_of_four_to_six(self):
        random = Random(23)
        for size, joins in some_objects(23, (4, 5, 6), 120):
            lit = [random.randrange(size) for _ in range(random.randrange(1, size + 1))]
            self.held(size, joins, lit)

    def held(self, size, joins, lit):
        burning = frozenset(burn(joins, lit))
        self.assertEqual(finish(size, joins, lit), [plain_finish(size, joins, burning), len(lit)], (joins, lit))

    def test_lights_nothing(self):
        calls = [("begin", 1), ("line", 4), ("light", 0), ("finish",), ("finish",), ("state",), ("burns",)]
        self.assertEqual(ask(*calls)[3:], [[2, 1], [2, 1], [4, 3, 0, 1, 1, 2, 2, 3, 0], [1, 0]])


if __name__ == "__main__":
    unittest.main()
