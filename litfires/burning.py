"""What burns by a row of places, and the first row by which all does: the shortest, or one of a length told.

Several places together are kept as one whole number, with a bit for each, the lowest for place 0:
so they can be a dict's key.
"""


def everything(size):
    return (1 << size) - 1


def places_of(burnt, size):
    return [place for place in range(size) if burnt & (1 << place) != 0]


# A place is near itself, too: so what burns goes on burning when it spreads.
def near_places(size, joins):
    near = [1 << place for place in range(size)]
    for lesser, greater in joins:
        near[lesser] |= 1 << greater
        near[greater] |= 1 << lesser
    return near


def spread(near, burnt):
    wider = 0
    for place, beside in enumerate(near):
        if burnt & (1 << place) != 0:
            wider |= beside
    return wider


# The same for all that may burn, by its number, as a search asks for it again and again. With each place more
# there is what may burn without it, and then the same with it.
def all_spreads(near):
    spreads = [0]
    for beside in near:
        spreads = spreads + [wider | beside for wider in spreads]
    return spreads


def burnt_by(near, row):
    burnt = 0
    for place in row:
        burnt = spread(near, burnt) | (1 << place)
    return burnt


# Rows of one length are kept by what burns behind them, for each the first row by which just that does: how
# a row goes on hangs on what burns alone. The dict is in the order of its rows, and so are the longer ones as
# they come: the first by which something burns is the one to keep.
def one_longer(size, spreads, rows):
    longer = {}
    for burnt, row in rows.items():
        for place in range(size):
            together = spreads[burnt] | (1 << place)
            if together not in longer:
                longer[together] = row + [place]
    return longer


# From what burns already on. It ends, as by a row of all the places all burns.
def shortest_row(near, burnt):
    whole = everything(len(near))
    spreads = all_spreads(near)
    rows = {burnt: []}
    while whole not in rows:
        rows = one_longer(len(near), spreads, rows)
    return rows[whole]


def fewest_turns(size, joins):
    return len(shortest_row(near_places(size, joins), 0))


# From nothing on. None, where by no row of that length all burns.
def first_row_of(near, length):
    spreads = all_spreads(near)
    rows = {0: []}
    for turn in range(length):
        rows = one_longer(len(near), spreads, rows)
    return rows.get(everything(len(near)))
