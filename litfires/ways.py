"""How far one comes by joins: the places within so many of one, the way between two, the parts."""

from litfires.burning import places_of, spread


# No shortest way has as many joins as there are places: so more steps than that find nothing more.
def reached(near, place, steps):
    within = 1 << place
    for step in range(min(steps, len(near))):
        within = spread(near, within)
    return within


# None, where one doesn't come from the one to the other.
def distance(near, place, another):
    for steps in range(len(near)):
        if reached(near, place, steps) & (1 << another) != 0:
            return steps
    return None


# How many places each part has. It's come to at its least place first, so the sizes stand by that.
def part_sizes(near):
    sizes = []
    seen = 0
    for place in range(len(near)):
        if seen & (1 << place) == 0:
            together = reached(near, place, len(near))
            seen |= together
            sizes.append(len(places_of(together, len(near))))
    return sizes
