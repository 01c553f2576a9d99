"""The calls: each takes the object and the numbers behind its own, and gives the list of its answer."""

from litfires.burning import best_row, burnt_by, everything, near_places, places_of

NO_SUCH_PLACE = -2
NOT_SO = -6
NOT_BEGUN = -11
SO_ALREADY = -17
OUT_OF_RANGE = -22
TOO_MANY = -28

BEGIN = 0
MOST_PLACES = 9
LEAST_RING = 3


def is_missing(ground, places):
    return max(places) >= ground.size


def near(ground):
    return near_places(ground.size, ground.joins)


def burnt_now(ground):
    return burnt_by(near(ground), ground.lit)


def counted(numbers):
    return [len(numbers)] + numbers


def joins_in_a_row(size):
    return [(place, place + 1) for place in range(size - 1)]


def begin(ground, given):
    size = given[0]
    if size < 1 or size > MOST_PLACES:
        return [OUT_OF_RANGE]
    ground.lay(size, [])
    return [0]


def line(ground, given):
    size = given[0]
    if size < 1 or size > MOST_PLACES:
        return [OUT_OF_RANGE]
    ground.lay(size, joins_in_a_row(size))
    return [len(ground.joins)]


def ring(ground, given):
    size = given[0]
    if size < LEAST_RING or size > MOST_PLACES:
        return [OUT_OF_RANGE]
    ground.lay(size, joins_in_a_row(size) + [(0, size - 1)])
    return [len(ground.joins)]


def join(ground, given):
    if is_missing(ground, given):
        return [NO_SUCH_PLACE]
    if given[0] == given[1]:
        return [OUT_OF_RANGE]
    pair = (min(given), max(given))
    if pair in ground.joins:
        return [SO_ALREADY]
    ground.joins.append(pair)
    return [len(ground.joins)]


def part(ground, given):
    if is_missing(ground, given):
        return [NO_SUCH_PLACE]
    pair = (min(given), max(given))
    if pair not in ground.joins:
        return [NOT_SO]
    ground.joins.remove(pair)
    return [len(ground.joins)]


def light(ground, given):
    if is_missing(ground, given):
        return [NO_SUCH_PLACE]
    if len(ground.lit) == ground.size:
        return [TOO_MANY]
    ground.lit.append(given[0])
    return [len(places_of(burnt_now(ground), ground.size))]


def out(ground, given):
    were = len(ground.lit)
    ground.lit = []
    return [were]


def burns(ground, given):
    return counted(places_of(burnt_now(ground), ground.size))


def left(ground, given):
    unburnt = everything(ground.size) ^ burnt_now(ground)
    return counted(places_of(unburnt, ground.size))


def turns(ground, given):
    return [len(best_row(near(ground)))]


def best(ground, given):
    return counted(best_row(near(ground)))


WRITTEN = {
    0: begin,
    1: join,
    2: part,
    3: line,
    4: ring,
    5: light,
    6: out,
    7: burns,
    8: left,
    9: turns,
    10: best,
}


def answer(ground, number, given):
    if number != BEGIN and ground.size == 0:
        return [NOT_BEGUN]
    if number not in WRITTEN:
        raise NotImplementedError(f"call {number} is not written yet")
    call = WRITTEN[number]
    return call(ground, given)
