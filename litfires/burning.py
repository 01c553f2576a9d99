"""What burns by a row of places, and the first of the shortest rows by which all does.

Several places together are kept as one whole number, with a bit for each, the lowest for place 0:
so they can be a dict's key.
"""


def everything(size):
    return (1 << size) - 1


def places_of(burnt, size):
    return [place for place in range(size) if burnt & (1 << place) != 0]


# A place is near itself, too: so what burns goes on burning when it spreads.
def near_places(size, joins):
    near = [1 << place for place in range(size)]
    for lesser, greater in joins:
        near[lesser] |= 1 << greater
        near[greater] |= 1 << lesser
    return near


def spread(near, burnt):
    wider = 0
    for place in places_of(burnt, len(near)):
        wider |= near[place]
    return wider


def burnt_by(near, row):
    burnt = 0
    for place in row:
        burnt = spread(near, burnt) | (1 << place)
    return burnt


# Rows of one length are kept by what they burn, for each the first row that burns just that, and the dict
# is in the order of its rows. The place ahead is walked first: so the longer rows come in their order, too,
# and the first that burns something is the one to keep.
def one_longer(rows, balls):
    longer = {}
    for place, ball in enumerate(balls):
        for burnt, row in rows.items():
            together = burnt | ball
            if together not in longer:
                longer[together] = [place] + row
    return longer


# What a place has burnt in the end hangs on the turns behind it alone: it's all within so many joins of it.
# So rows are built from the last place backwards, and those of one length serve for the next. It ends, as
# a row of all the places burns all.
def best_row(near):
    whole = everything(len(near))
    rows = {0: []}
    balls = [1 << place for place in range(len(near))]
    while whole not in rows:
        rows = one_longer(rows, balls)
        balls = [spread(near, ball) for ball in balls]
    return rows[whole]
