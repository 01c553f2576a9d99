"""The first tree by which all burns as soon as by all the joins."""

from litfires.burning import fewest_turns, near_places
from litfires.ways import part_sizes


# Each of so many of the joins, in their order; those with an earlier join come first.
def choices(joins, count):
    if count == 0:
        return [[]]
    chosen = []
    for at, first in enumerate(joins):
        for others in choices(joins[at + 1:], count - 1):
            chosen.append([first] + others)
    return chosen


def how_many_parts(size, joins):
    return len(part_sizes(near_places(size, joins)))


# A tree has a join less than places in each part; so many joins are one just if they make no more parts.
def first_tree(size, joins):
    parts = how_many_parts(size, joins)
    turns = fewest_turns(size, joins)
    for chosen in choices(joins, size - parts):
        if how_many_parts(size, chosen) == parts and fewest_turns(size, chosen) == turns:
            return chosen
    return None
