"""Point 4: tree."""

import unittest
from itertools import combinations, permutations
from random import Random

from plain import ask, best_of, every_object, how_many_parts, laid, last, plain_tree, some_objects


def tree(size, joins):
    """The joins that tree tells, or None where it's refused."""
    answered = last(*laid(size, joins), ("tree",))
    if answered[0] < 0:
        if len(answered) != 1:
            raise AssertionError(f"a refusal is told with more: {answered}")
        return None
    if len(answered) != 1 + 2 * answered[0]:
        raise AssertionError(f"not two for each: {answered}")
    return list(zip(answered[1::2], answered[2::2]))


class Known(unittest.TestCase):
    def test_one_place(self):
        self.assertEqual(last(("begin", 1), ("tree",)), [0])

    def test_no_joins(self):
        for size in range(1, 8):
            self.assertEqual(last(("begin", size), ("tree",)), [0])

    def test_a_row_is_a_tree_already(self):
        for size in range(1, 8):
            expected = [size - 1] + [place for p in range(size - 1) for place in (p, p + 1)]
            self.assertEqual(last(("begin", 1), ("line", size), ("tree",)), expected)

    def test_a_tree_already_as_it_was_told(self):
        joins = [(3, 1), (0, 2), (6, 5), (1, 0), (4, 1), (2, 5)]
        self.assertEqual(tree(7, joins), [(1, 3), (0, 2), (5, 6), (0, 1), (1, 4), (2, 5)])

    def test_a_ring_is_opened_where_it_closes(self):
        for size in range(3, 8):
            expected = [size - 1] + [place for p in range(size - 1) for place in (p, p + 1)]
            self.assertEqual(last(("begin", 1), ("ring", size), ("tree",)), expected)

    def test_a_ring_told_in_another_order(self):
        self.assertEqual(tree(3, [(2, 0), (1, 2), (0, 1)]), [(0, 2), (1, 2)])
        self.assertEqual(tree(4, [(3, 0), (1, 2), (0, 1), (3, 2)]), [(0, 3), (1, 2), (0, 1)])

    def test_the_first_joins_may_need_more_turns(self):
        # Place 0 is joined with all: two turns. The four first joins make a row of five, which needs three.
        joins = [(1, 2), (2, 3), (3, 4), (0, 1), (0, 2), (0, 3), (0, 4)]
        self.assertEqual(tree(5, joins), [(1, 2), (2, 3), (3, 4), (0, 2)])

    def test_the_first_joins_may_go_round(self):
        joins = [(0, 1), (1, 2), (0, 2), (2, 3)]
        self.assertEqual(tree(4, joins), [(0, 1), (1, 2), (2, 3)])

    def test_no_more_of_the_early_joins_than_so_few_turns_allow(self):
        # Of seven in a wheel two turns want the hub with five of its six: so the rim can have one alone.
        rim = [(1, 2), (3, 4), (5, 6)]
        hub = [(0, p) for p in range(1, 7)]
        self.assertEqual(len(best_of(7, rim + hub)), 2)
        self.assertEqual(tree(7, rim + hub), [(1, 2), (0, 1), (0, 3), (0, 4), (0, 5), (0, 6)])
        self.assertEqual(tree(7, hub + rim), hub)

    def test_several_parts(self):
        joins = [(5, 6), (0, 1), (1, 2), (0, 2), (4, 5), (4, 6)]
        self.assertEqual(tree(7, joins), [(5, 6), (0, 1), (1, 2), (4, 5)])

    def test_joined_again_is_told_last(self):
        calls = [("begin", 1), ("ring", 3), ("part", 0, 1), ("join", 1, 0), ("tree",)]
        self.assertEqual(last(*calls), [2, 1, 2, 0, 2])

    def test_what_is_lit_does_not_count(self):
        calls = [("begin", 1), ("ring", 4), ("light", 0), ("light", 2), ("tree",)]
        self.assertEqual(last(*calls), [3, 0, 1, 1, 2, 2, 3])

    def test_changes_nothing(self):
        calls = [("begin", 1), ("ring", 3), ("light", 2), ("tree",), ("state",), ("tree",)]
        answered = ask(*calls)
        self.assertEqual(answered[4], [3, 3, 0, 1, 1, 2, 0, 2, 2])
        self.assertEqual(answered[3], answered[5])


class TooMany(unittest.TestCase):
    def test_eight_and_nine_places(self):
        for size in (8, 9):
            self.assertEqual(last(("begin", size), ("tree",)), [-28])
            self.assertEqual(last(("begin", 1), ("line", size), ("tree",)), [-28])
            self.assertEqual(last(("begin", 1), ("ring", size), ("tree",)), [-28])

    def test_seven_places(self):
        self.assertEqual(last(("begin", 7), ("tree",)), [0])
        self.assertEqual(len(tree(7, [(p, p + 1) for p in range(6)])), 6)

    def test_nine_and_ten_joins(self):
        for size in (5, 6, 7):
            pairs = list(combinations(range(size), 2))
            nine = tree(size, pairs[:9])
            self.assertEqual(len(nine), size - how_many_parts(size, pairs[:9]))
            self.assertEqual(last(*laid(size, pairs[:10]), ("tree",)), [-28])
            self.assertEqual(last(*laid(size, pairs), ("tree",)), [-28])

    def test_ten_joins_and_one_parted(self):
        calls = laid(5, combinations(range(5), 2)) + [("tree",), ("part", 0, 4), ("tree",)]
        self.assertEqual(ask(*calls)[-3:], [[-28], [9], [4, 0, 1, 0, 2, 0, 3, 1, 4]])

    def test_too_many_of_both(self):
        self.assertEqual(last(*laid(9, combinations(range(9), 2)), ("tree",)), [-28])

    def test_changes_nothing(self):
        calls = laid(8, [(7, 0)]) + [("light", 3), ("tree",), ("state",)]
        self.assertEqual(ask(*calls)[-2:], [[-28], [8, 1, 0, 7, 3]])


class PlainSearch(unittest.TestCase):
    def held(self, size, joins):
        told = tuple((min(pair), max(pair)) for pair in joins)
        self.assertEqual(tree(size, joins), list(plain_tree(size, told)), (size, joins))

    def test_every_object_of_one_to_four_places(self):
        for size in range(1, 5):
            for joins in every_object(size):
                self.held(size, joins)
                self.held(size, joins[::-1])

    def test_every_order_of_the_joins(self):
        for joins in ([(0, 1), (1, 2), (2, 3), (0, 3), (0, 2)], [(1, 0), (1, 2), (2, 0), (4, 3)]):
            for told in permutations(joins):
                self.held(5, told)

    def test_some_of_five_in_some_orders(self):
        random = Random(51)
        for size, joins in some_objects(51, (5,), 120):
            if len(joins) <= 9:
                told = random.sample(joins, len(joins))
                self.held(size, [random.sample(pair, 2) for pair in told])

    def test_some_of_six_and_seven_that_need_few(self):
        random = Random(52)
        held = 0
        for _ in range(60):
            size = random.choice((6, 7))
            told = random.sample(list(combinations(range(size), 2)), random.choice((6, 7, 8, 9)))
            if len(best_of(size, told)) <= 3:
                held += 1
                self.held(size, told)
        self.assertGreater(held, 20)

    def test_rings_of_three_to_seven_in_some_orders(self):
        random = Random(53)
        for size in range(3, 8):
            ring = [(p, (p + 1) % size) for p in range(size)]
            for _ in range(4):
                self.held(size, random.sample(ring, size))

    def test_hubs_with_the_rim_told_ahead(self):
        # Two turns can be had by few of the trees here, and the first joins lead away from them.
        random = Random(54)
        for size in (5, 6, 7):
            hub = random.randrange(size)
            spokes = [(hub, p) for p in range(size) if p != hub]
            rim = [pair for pair in combinations(range(size), 2) if hub not in pair]
            for _ in range(4):
                self.held(size, random.sample(rim, 9 - len(spokes)) + random.sample(spokes, len(spokes)))
                told = random.sample(rim, 9 - len(spokes)) + spokes
                self.held(size, random.sample(told, 9))


if __name__ == "__main__":
    unittest.main()
