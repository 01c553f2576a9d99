"""Point 1, and what the document says ahead of it: begin, line, ring, join, part and their refusals."""

import unittest

from plain import ARGUMENTS, EDGES, NAMES, TOP, ask, last


def example(name, number):
    """A call of that name with that number wherever one is asked for."""
    if name == "row":
        return (name, [number] * 11)
    return (name,) + (number,) * ARGUMENTS[name]


class NotBegun(unittest.TestCase):
    def test_every_other_call_on_a_new_object(self):
        for name in NAMES[1:]:
            for number in EDGES:
                self.assertEqual(ask(example(name, number)), [[-11]], (name, number))

    def test_every_other_call_behind_a_refused_begin(self):
        for refused in (0, 10, TOP):
            for name in NAMES[1:]:
                calls = [("begin", refused), example(name, 3), example(name, TOP)]
                self.assertEqual(ask(*calls), [[-22], [-11], [-11]], (refused, name))

    def test_rows_of_every_length_are_stepped_over(self):
        calls = [("row", [5] * length) for length in range(12)]
        self.assertEqual(ask(*calls, ("begin", 1)), [[-11]] * 12 + [[0]])

    def test_line_and_ring_begin_nothing(self):
        self.assertEqual(ask(("line", 3), ("ring", 3), ("turns",)), [[-11]] * 3)

    def test_begin_ends_it(self):
        self.assertEqual(ask(("light", 0), ("begin", 2), ("light", 0)), [[-11], [0], [1]])


class Begin(unittest.TestCase):
    def test_from_one_to_nine(self):
        for size in range(1, 10):
            self.assertEqual(ask(("begin", size), ("left",)), [[0], [size] + list(range(size))])

    def test_out_of_range(self):
        for size in (0, 10, 11, 255, TOP):
            self.assertEqual(ask(("begin", size)), [[-22]])

    def test_once_more_forgets_joins_and_lit_places(self):
        for size in range(1, 10):
            calls = [("ring", 5), ("light", 0), ("begin", size), ("burns",), ("left",), ("turns",), ("out",)]
            expected = [[5], [1], [0], [0], [size] + list(range(size)), [size], [0]]
            self.assertEqual(ask(("begin", 1), *calls)[1:], expected)

    def test_once_more_joins_are_counted_anew(self):
        self.assertEqual(last(("begin", 4), ("join", 0, 1), ("join", 1, 2), ("begin", 4), ("join", 0, 1)), [1])

    def test_refused_once_more_keeps_joins_and_lit_places(self):
        for size in (0, 10, TOP):
            calls = [("begin", 3), ("join", 0, 1), ("light", 0), ("light", 2), ("begin", size)]
            self.assertEqual(ask(*calls, ("burns",), ("join", 1, 2))[4:], [[-22], [3, 0, 1, 2], [2]])


class Line(unittest.TestCase):
    def test_answers_how_many_joins(self):
        for size in range(1, 10):
            self.assertEqual(last(("begin", 2), ("line", size)), [size - 1])

    def test_out_of_range(self):
        for size in (0, 10, TOP):
            self.assertEqual(last(("begin", 2), ("line", size)), [-22])

    def test_each_is_joined_with_the_next_alone(self):
        for size in range(1, 10):
            for p in range(size):
                for q in range(size):
                    expected = [size - 2] if abs(p - q) == 1 else [-6]
                    self.assertEqual(last(("begin", 1), ("line", size), ("part", p, q)), expected)

    def test_has_no_more_places(self):
        for size in range(1, 10):
            self.assertEqual(last(("begin", 9), ("line", size), ("light", size)), [-2])

    def test_on_an_object_with_joins_and_lit_places(self):
        calls = [("begin", 9), ("join", 0, 8), ("light", 8), ("line", 4), ("left",), ("out",), ("join", 0, 3)]
        self.assertEqual(ask(*calls)[3:], [[3], [4, 0, 1, 2, 3], [0], [4]])

    def test_refused_keeps_joins_and_lit_places(self):
        for size in (0, 10, TOP):
            calls = [("begin", 3), ("join", 0, 2), ("light", 0), ("light", 0), ("line", size), ("burns",)]
            self.assertEqual(ask(*calls, ("join", 0, 1))[4:], [[-22], [2, 0, 2], [2]])


class Ring(unittest.TestCase):
    def test_answers_how_many_joins(self):
        for size in range(3, 10):
            self.assertEqual(last(("begin", 1), ("ring", size)), [size])

    def test_out_of_range(self):
        for size in (0, 1, 2, 10, TOP):
            self.assertEqual(last(("begin", 5), ("ring", size)), [-22])

    def test_each_is_joined_with_the_next_and_the_last_with_the_first(self):
        for size in range(3, 10):
            for p in range(size):
                for q in range(size):
                    expected = [size - 1] if (p - q) % size in (1, size - 1) else [-6]
                    self.assertEqual(last(("begin", 1), ("ring", size), ("part", p, q)), expected)

    def test_has_no_more_places(self):
        for size in range(3, 10):
            self.assertEqual(last(("begin", 9), ("ring", size), ("light", size)), [-2])

    def test_on_an_object_with_joins_and_lit_places(self):
        calls = [("begin", 9), ("join", 0, 2), ("light", 8), ("ring", 4), ("left",), ("out",), ("join", 2, 0)]
        self.assertEqual(ask(*calls)[3:], [[4], [4, 0, 1, 2, 3], [0], [5]])

    def test_refused_keeps_joins_and_lit_places(self):
        for size in (0, 1, 2, 10, TOP):
            calls = [("begin", 3), ("join", 0, 2), ("light", 0), ("light", 0), ("ring", size), ("burns",)]
            self.assertEqual(ask(*calls, ("join", 0, 1))[4:], [[-22], [2, 0, 2], [2]])


class Join(unittest.TestCase):
    def test_answers_how_many_joins(self):
        calls = [("begin", 9), ("join", 0, 8), ("join", 3, 1), ("join", 7, 8), ("join", 8, 1)]
        self.assertEqual(ask(*calls), [[0], [1], [2], [3], [4]])

    def test_all_with_all(self):
        pairs = [(p, q) for p in range(9) for q in range(p)]
        answered = ask(("begin", 9), *[("join", p, q) for p, q in pairs])
        self.assertEqual(answered[1:], [[count] for count in range(1, 37)])

    def test_no_such_place_either_way_round(self):
        for size in range(1, 10):
            for missing in (size, size + 1, TOP):
                self.assertEqual(last(("begin", size), ("join", missing, 0)), [-2])
                self.assertEqual(last(("begin", size), ("join", 0, missing)), [-2])

    def test_with_itself(self):
        for p in range(9):
            self.assertEqual(last(("begin", 9), ("join", p, p)), [-22])

    def test_joined_already_either_way_round(self):
        for told in ((0, 1), (1, 0)):
            for again in ((0, 1), (1, 0)):
                self.assertEqual(last(("begin", 2), ("join",) + told, ("join",) + again), [-17])

    def test_no_such_place_is_answered_before_the_same(self):
        for missing in (2, 9, 10, TOP):
            self.assertEqual(last(("begin", 2), ("join", missing, missing)), [-2])

    def test_refused_joins_nothing(self):
        for refused in ((0, 0), (0, 1), (1, 0), (0, 3), (3, 3), (TOP, 0)):
            calls = [("begin", 3), ("join", 0, 1), ("join",) + refused, ("join", 1, 2), ("part", 0, 1)]
            self.assertEqual(ask(*calls)[3:], [[2], [1]])

    def test_keeps_what_is_lit(self):
        calls = [("begin", 3), ("light", 0), ("light", 0), ("join", 0, 2), ("burns",), ("out",)]
        self.assertEqual(ask(*calls)[2:], [[1], [1], [2, 0, 2], [2]])


class Part(unittest.TestCase):
    def test_answers_how_many_joins(self):
        calls = [("begin", 1), ("line", 4), ("part", 1, 2), ("part", 3, 2), ("part", 0, 1)]
        self.assertEqual(ask(*calls)[1:], [[3], [2], [1], [0]])

    def test_either_way_round(self):
        for told in ((0, 1), (1, 0)):
            for parted in ((0, 1), (1, 0)):
                self.assertEqual(last(("begin", 2), ("join",) + told, ("part",) + parted), [0])

    def test_no_such_place_either_way_round(self):
        for missing in (3, 4, 9, 10, TOP):
            self.assertEqual(last(("begin", 1), ("line", 3), ("part", missing, 0)), [-2])
            self.assertEqual(last(("begin", 1), ("line", 3), ("part", 0, missing)), [-2])
            self.assertEqual(last(("begin", 1), ("line", 3), ("part", missing, missing)), [-2])

    def test_not_joined(self):
        self.assertEqual(last(("begin", 2), ("part", 0, 1)), [-6])
        self.assertEqual(last(("begin", 1), ("line", 3), ("part", 0, 2)), [-6])
        self.assertEqual(last(("begin", 1), ("line", 3), ("part", 1, 1)), [-6])

    def test_twice(self):
        calls = [("begin", 2), ("join", 0, 1), ("part", 0, 1), ("part", 0, 1), ("join", 0, 1)]
        self.assertEqual(ask(*calls), [[0], [1], [0], [-6], [1]])

    def test_keeps_the_other_joins_and_what_is_lit(self):
        calls = [("begin", 1), ("ring", 3), ("light", 0), ("light", 0), ("part", 0, 2), ("burns",), ("part", 1, 2)]
        self.assertEqual(ask(*calls)[3:], [[3], [2], [2, 0, 1], [1]])


if __name__ == "__main__":
    unittest.main()
