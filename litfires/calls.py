"""The calls: each takes the object and the numbers behind its own, and gives the list of its answer."""

from litfires.burning import burnt_by, everything, fewest_turns, first_row_of, near_places, places_of, shortest_row
from litfires.trees import first_tree
from litfires.ways import distance, part_sizes, reached

NO_SUCH_PLACE = -2
NOT_SO = -6
NOT_BEGUN = -11
SO_ALREADY = -17
OUT_OF_RANGE = -22
TOO_MANY = -28
THERE_IS_NONE = -33

BEGIN = 0
MOST_PLACES = 9
LEAST_RING = 3
LONGEST_ROW = 9
MOST_ROOTED = 1000
MOST_PLACES_OF_A_TREE = 7
MOST_JOINS_OF_A_TREE = 9


def is_missing(ground, places):
    return max(places) >= ground.size


def near(ground):
    return near_places(ground.size, ground.joins)


def burnt_now(ground):
    return burnt_by(near(ground), ground.lit)


def turns_now(ground):
    return fewest_turns(ground.size, ground.joins)


def counted(numbers):
    return [len(numbers)] + numbers


def pair_of(places):
    return (min(places), max(places))


def in_a_row(joins):
    numbers = []
    for pair in joins:
        numbers.extend(pair)
    return numbers


def joins_of_a_line(size):
    return [(place, place + 1) for place in range(size - 1)]


# With what these two may not be joined; 0, where they may.
def joining_refused(ground, places):
    if is_missing(ground, places):
        return NO_SUCH_PLACE
    if places[0] == places[1]:
        return OUT_OF_RANGE
    if pair_of(places) in ground.joins:
        return SO_ALREADY
    return 0


# With what these two may not be parted; 0, where they may.
def parting_refused(ground, places):
    if is_missing(ground, places):
        return NO_SUCH_PLACE
    if pair_of(places) not in ground.joins:
        return NOT_SO
    return 0


def begin(ground, given):
    size = given[0]
    if size < 1 or size > MOST_PLACES:
        return [OUT_OF_RANGE]
    ground.lay(size, [])
    return [0]


def line(ground, given):
    size = given[0]
    if size < 1 or size > MOST_PLACES:
        return [OUT_OF_RANGE]
    ground.lay(size, joins_of_a_line(size))
    return [len(ground.joins)]


def ring(ground, given):
    size = given[0]
    if size < LEAST_RING or size > MOST_PLACES:
        return [OUT_OF_RANGE]
    ground.lay(size, joins_of_a_line(size) + [(0, size - 1)])
    return [len(ground.joins)]


def join(ground, given):
    refusal = joining_refused(ground, given)
    if refusal < 0:
        return [refusal]
    ground.joins.append(pair_of(given))
    return [len(ground.joins)]


def part(ground, given):
    refusal = parting_refused(ground, given)
    if refusal < 0:
        return [refusal]
    ground.joins.remove(pair_of(given))
    return [len(ground.joins)]


def light(ground, given):
    if is_missing(ground, given):
        return [NO_SUCH_PLACE]
    if len(ground.lit) == ground.size:
        return [TOO_MANY]
    ground.lit.append(given[0])
    return [len(places_of(burnt_now(ground), ground.size))]


def out(ground, given):
    were = len(ground.lit)
    ground.lit = []
    return [were]


def burns(ground, given):
    return counted(places_of(burnt_now(ground), ground.size))


def left(ground, given):
    unburnt = everything(ground.size) ^ burnt_now(ground)
    return counted(places_of(unburnt, ground.size))


def turns(ground, given):
    return [turns_now(ground)]


def best(ground, given):
    return counted(shortest_row(near(ground), 0))


# Its first number tells how many places follow.
def row(ground, given):
    places = given[1:]
    if len(places) > LONGEST_ROW:
        return [OUT_OF_RANGE]
    if len(places) > 0 and is_missing(ground, places):
        return [OUT_OF_RANGE]
    burnt = places_of(burnt_by(near(ground), places), ground.size)
    return [1 if len(burnt) == ground.size else 0, len(burnt)]


def can(ground, given):
    length = given[0]
    if length > LONGEST_ROW:
        return [OUT_OF_RANGE]
    told = first_row_of(near(ground), length)
    if told is None:
        return [THERE_IS_NONE]
    return counted(told)


def within(ground, given):
    place = given[0]
    if is_missing(ground, [place]):
        return [NO_SUCH_PLACE]
    return counted(places_of(reached(near(ground), place, given[1]), ground.size))


def with_join(ground, given):
    refusal = joining_refused(ground, given)
    if refusal < 0:
        return [refusal]
    joins = ground.joins + [pair_of(given)]
    return [fewest_turns(ground.size, joins), turns_now(ground)]


def without_join(ground, given):
    refusal = parting_refused(ground, given)
    if refusal < 0:
        return [refusal]
    joins = [pair for pair in ground.joins if pair != pair_of(given)]
    return [fewest_turns(ground.size, joins), turns_now(ground)]


def far(ground, given):
    if is_missing(ground, given):
        return [NO_SUCH_PLACE]
    steps = distance(near(ground), given[0], given[1])
    if steps is None:
        return [THERE_IS_NONE]
    return [steps]


def root(ground, given):
    square = given[0]
    if square > MOST_ROOTED:
        return [OUT_OF_RANGE]
    side = 0
    while side * side < square:
        side += 1
    return [side]


def finish(ground, given):
    return [len(shortest_row(near(ground), burnt_now(ground))), len(ground.lit)]


def parts(ground, given):
    return counted(part_sizes(near(ground)))


def tree(ground, given):
    if ground.size > MOST_PLACES_OF_A_TREE or len(ground.joins) > MOST_JOINS_OF_A_TREE:
        return [TOO_MANY]
    chosen = first_tree(ground.size, ground.joins)
    # What holds of trees says there's always one; the refusal is told all the same.
    if chosen is None:
        return [THERE_IS_NONE]
    return [len(chosen)] + in_a_row(chosen)


def state(ground, given):
    return [ground.size, len(ground.joins)] + in_a_row(ground.joins) + ground.lit


BY_NUMBER = {
    0: begin,
    1: join,
    2: part,
    3: line,
    4: ring,
    5: light,
    6: out,
    7: burns,
    8: left,
    9: turns,
    10: best,
    11: row,
    12: can,
    13: within,
    14: with_join,
    15: without_join,
    16: far,
    17: root,
    18: finish,
    19: parts,
    20: tree,
    21: state,
}


def answer(ground, number, given):
    if number != BEGIN and ground.size == 0:
        return [NOT_BEGUN]
    call = BY_NUMBER[number]
    return call(ground, given)
