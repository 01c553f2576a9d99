"""Point 3: can, row, with, without."""

import unittest
from itertools import combinations, product
from random import Random

from plain import TOP, ask, best_of, burn, every_object, first_of, laid, last, some_objects


class Can(unittest.TestCase):
    def test_above_nine(self):
        for k in (10, 11, 255, TOP):
            for before in ([("begin", 1)], [("begin", 9)], [("begin", 1), ("ring", 9)]):
                self.assertEqual(last(*before, ("can", k)), [-22])

    def test_none_at_all(self):
        for size in range(1, 10):
            self.assertEqual(last(("begin", size), ("can", 0)), [-33])
            self.assertEqual(last(("begin", 1), ("line", size), ("can", 0)), [-33])

    def test_one(self):
        self.assertEqual(last(("begin", 1), ("can", 1)), [1, 0])
        for size in range(2, 10):
            self.assertEqual(last(*laid(size, combinations(range(size), 2)), ("can", 1)), [-33])

    def test_one_place(self):
        for k in range(1, 10):
            self.assertEqual(last(("begin", 1), ("can", k)), [k] + [0] * k)

    def test_no_joins(self):
        for size in range(1, 10):
            for k in range(10):
                expected = [k] + [0] * (k - size) + list(range(size)) if k >= size else [-33]
                self.assertEqual(last(("begin", size), ("can", k)), expected)

    def test_a_row_of_nine(self):
        before = [("begin", 1), ("line", 9)]
        self.assertEqual(last(*before, ("can", 2)), [-33])
        self.assertEqual(last(*before, ("can", 3)), [3, 2, 6, 8])
        self.assertEqual(last(*before, ("can", 4)), [4, 0, 2, 6, 8])
        self.assertEqual(last(*before, ("can", 9)), [9] + [0] * 9)

    def test_as_few_as_can_be_is_the_row_that_best_tells(self):
        for size, joins in some_objects(31, range(1, 10), 100):
            row = best_of(size, joins)
            answered = ask(*laid(size, joins), ("can", len(row)), ("can", len(row) - 1))[-2:]
            self.assertEqual(answered, [[len(row)] + row, [-33]])

    def test_all_that_is_more_can_too(self):
        for size, joins in some_objects(32, range(1, 10), 60):
            for k in range(len(best_of(size, joins)), 10):
                row = last(*laid(size, joins), ("can", k))
                self.assertEqual(len(row), 1 + k)
                self.assertEqual(row[0], k)
                self.assertEqual(burn(joins, row[1:]), set(range(size)))

    def test_what_is_lit_does_not_count(self):
        calls = [("begin", 1), ("line", 4), ("light", 1), ("light", 3), ("can", 1), ("can", 2)]
        self.assertEqual(ask(*calls)[-2:], [[-33], [2, 1, 3]])

    def test_every_object_of_one_to_four_places(self):
        for size in range(1, 5):
            for joins in every_object(size):
                for k in range(6):
                    self.held(size, joins, k)

    def test_some_of_five_and_six(self):
        for size, joins in some_objects(33, (5, 6), 60):
            for k in range(5):
                self.held(size, joins, k)

    def held(self, size, joins, k):
        row = first_of(size, joins, k)
        expected = [-33] if row is None else [k] + list(row)
        self.assertEqual(last(*laid(size, joins), ("can", k)), expected, (size, joins, k))


class Row(unittest.TestCase):
    def test_no_place(self):
        for size in range(1, 10):
            self.assertEqual(last(("begin", size), ("row", [])), [0, 0])
            self.assertEqual(last(("begin", 1), ("line", size), ("row", [])), [0, 0])

    def test_one_place_again_and_again(self):
        for length in range(1, 10):
            self.assertEqual(last(("begin", 1), ("row", [0] * length)), [1, 1])
            self.assertEqual(last(("begin", 2), ("row", [1] * length)), [0, 1])
            expected = [int(length == 9), length]
            self.assertEqual(last(("begin", 1), ("line", 9), ("row", [0] * length)), expected)

    def test_nine_ten_and_eleven(self):
        self.assertEqual(last(("begin", 9), ("row", list(range(9)))), [1, 9])
        self.assertEqual(last(("begin", 9), ("row", [3] * 9)), [0, 1])
        for length in (10, 11):
            for before in ([("begin", 1)], [("begin", 9)], [("begin", 1), ("ring", 3)]):
                self.assertEqual(last(*before, ("row", [0] * length)), [-22])

    def test_more_than_there_are_places(self):
        self.assertEqual(last(("begin", 2), ("row", [0, 0, 0, 1])), [1, 2])

    def test_one_that_is_not_there(self):
        for size in range(1, 10):
            for missing in (size, size + 1, TOP):
                for length in (1, 2, 8, 9, 10, 11):
                    for at in {0, length // 2, length - 1}:
                        places = [0] * length
                        places[at] = missing
                        self.assertEqual(last(("begin", size), ("row", places)), [-22])

    def test_all_but_the_last_turn(self):
        self.assertEqual(last(("begin", 1), ("line", 9), ("row", [2, 6])), [0, 4])
        self.assertEqual(last(("begin", 1), ("line", 9), ("row", [2, 6, 8])), [1, 9])
        self.assertEqual(last(("begin", 1), ("line", 9), ("row", [8, 6, 2])), [0, 5])

    def test_what_is_lit_does_not_count(self):
        calls = [("begin", 3), ("light", 0), ("light", 1), ("row", [2]), ("row", []), ("row", [2, 1, 0])]
        self.assertEqual(ask(*calls)[3:], [[0, 1], [0, 0], [1, 3]])

    def test_how_many_follow_is_no_place(self):
        # With 2 places a row of 5 says 5 first, which isn't there; a row of one says 1, which is.
        self.assertEqual(last(("begin", 2), ("row", [0] * 5)), [0, 1])
        self.assertEqual(last(("begin", 2), ("row", [0])), [0, 1])

    def test_the_call_behind_it_is_read_whole(self):
        for length in range(12):
            calls = [("begin", 3), ("row", [1] * length), ("light", 2), ("state",)]
            self.assertEqual(ask(*calls)[2:], [[1], [3, 0, 2]])

    def test_every_row_on_every_object_of_one_to_three_places(self):
        for size in range(1, 4):
            for joins in every_object(size):
                for length in range(5):
                    for places in product(range(size), repeat=length):
                        self.held(size, joins, places)

    def test_some_rows_on_some_objects(self):
        random = Random(34)
        for size, joins in some_objects(34, range(4, 10), 300):
            self.held(size, joins, [random.randrange(size) for _ in range(random.randrange(10))])

    def held(self, size, joins, places):
        burnt = len(burn(joins, places))
        answered = last(*laid(size, joins), ("row", places))
        self.assertEqual(answered, [int(burnt == size), burnt], (size, joins, places))


class With(unittest.TestCase):
    def test_by_hand(self):
        self.assertEqual(last(("begin", 2), ("with", 1, 0)), [2, 2])
        self.assertEqual(last(("begin", 3), ("with", 0, 2)), [2, 3])
        self.assertEqual(last(("begin", 1), ("line", 5), ("with", 1, 3)), [2, 3])
        self.assertEqual(last(*laid(4, [(0, 1), (0, 2)]), ("with", 3, 0)), [2, 2])
        self.assertEqual(last(*laid(4, [(0, 1), (2, 3)]), ("with", 1, 2)), [2, 3])

    def test_no_such_place(self):
        for size in range(1, 10):
            for missing in (size, size + 1, TOP):
                for pair in ((0, missing), (missing, 0), (missing, missing)):
                    self.assertEqual(last(("begin", size), ("with", *pair)), [-2])

    def test_the_same(self):
        for p in range(9):
            self.assertEqual(last(("begin", 9), ("with", p, p)), [-22])
            self.assertEqual(last(("begin", 1), ("ring", 9), ("with", p, p)), [-22])

    def test_joined_already_either_way_round(self):
        for pair in ((1, 2), (2, 1)):
            self.assertEqual(last(("begin", 1), ("line", 3), ("with", *pair)), [-17])

    def test_joins_nothing(self):
        calls = laid(3, [(2, 1)]) + [("with", 0, 1), ("with", 1, 0), ("state",), ("turns",), ("join", 0, 1)]
        self.assertEqual(ask(*calls)[2:], [[2, 2], [2, 2], [3, 1, 1, 2], [2], [2]])

    def test_held_against_turns_behind_the_join(self):
        for size, joins in some_objects(35, range(2, 10), 60):
            for p, q in combinations(range(size), 2):
                if (p, q) not in joins:
                    joined = last(*laid(size, joins), ("join", p, q), ("turns",))
                    expected = joined + last(*laid(size, joins), ("turns",))
                    self.assertEqual(last(*laid(size, joins), ("with", p, q)), expected)
                    self.assertEqual(last(*laid(size, joins), ("with", q, p)), expected)

    def test_what_is_lit_does_not_count(self):
        calls = [("begin", 3), ("light", 0), ("light", 2), ("with", 0, 1)]
        self.assertEqual(last(*calls), [2, 3])


class Without(unittest.TestCase):
    def test_by_hand(self):
        self.assertEqual(last(("begin", 1), ("line", 2), ("without", 1, 0)), [2, 2])
        self.assertEqual(last(("begin", 1), ("line", 4), ("without", 1, 2)), [3, 2])
        self.assertEqual(last(("begin", 1), ("ring", 3), ("without", 0, 2)), [2, 2])
        self.assertEqual(last(*laid(4, [(0, 1), (0, 2), (0, 3)]), ("without", 0, 3)), [2, 2])
        self.assertEqual(last(*laid(5, [(0, 1), (0, 2), (0, 3), (0, 4)]), ("without", 4, 0)), [2, 2])
        self.assertEqual(last(*laid(3, [(0, 1)]), ("without", 0, 1)), [3, 2])

    def test_no_such_place(self):
        for size in range(1, 10):
            for missing in (size, size + 1, TOP):
                for pair in ((0, missing), (missing, 0), (missing, missing)):
                    self.assertEqual(last(("begin", 1), ("line", size), ("without", *pair)), [-2])

    def test_not_joined(self):
        self.assertEqual(last(("begin", 2), ("without", 0, 1)), [-6])
        self.assertEqual(last(("begin", 1), ("line", 3), ("without", 2, 0)), [-6])
        self.assertEqual(last(("begin", 1), ("line", 3), ("without", 1, 1)), [-6])

    def test_parts_nothing(self):
        calls = laid(3, [(2, 1), (0, 1)]) + [("without", 2, 1), ("without", 1, 2), ("state",), ("part", 1, 2)]
        self.assertEqual(ask(*calls)[3:], [[2, 2], [2, 2], [3, 2, 1, 2, 0, 1], [1]])

    def test_held_against_turns_behind_the_part(self):
        for size, joins in some_objects(36, range(2, 10), 60):
            for p, q in joins:
                parted = last(*laid(size, joins), ("part", p, q), ("turns",))
                expected = parted + last(*laid(size, joins), ("turns",))
                self.assertEqual(last(*laid(size, joins), ("without", p, q)), expected)
                self.assertEqual(last(*laid(size, joins), ("without", q, p)), expected)

    def test_what_is_lit_does_not_count(self):
        calls = laid(3, [(0, 1)]) + [("light", 0), ("light", 2), ("without", 0, 1)]
        self.assertEqual(last(*calls), [3, 2])


if __name__ == "__main__":
    unittest.main()
