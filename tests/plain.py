"""What the tests share: calls by their names, and the document's words gone through one by one.

The plain object below is slow and knows nothing of the program: it burns turn by turn, and looks for
the best row by trying every row.
"""

from functools import lru_cache
from itertools import product

from litfires.fires import answers

TOP = 4294967295
EDGES = (0, 1, 2, 3, 8, 9, 10, TOP)

NAMES = (
    "begin join part line ring light out burns left turns best row can within with without far root finish "
    "parts tree state"
).split()
ARGUMENTS = dict(zip(NAMES, (1, 2, 2, 1, 1, 1, 0, 0, 0, 0, 0, None, 1, 2, 2, 2, 2, 1, 0, 0, 0, 0)))
# The calls that are written so far; a stage that writes more adds them here.
WRITTEN = NAMES[:11]


def flat(calls):
    numbers = []
    for call in calls:
        numbers.append(NAMES.index(call[0]))
        for argument in call[1:]:
            if isinstance(argument, (list, tuple)):
                numbers.append(len(argument))
                numbers.extend(argument)
            else:
                numbers.append(argument)
    return numbers


def split(numbers):
    lists = []
    at = 0
    while at < len(numbers):
        end = at + 1 + numbers[at]
        lists.append(numbers[at + 1:end])
        if len(lists[-1]) != numbers[at]:
            raise AssertionError("the last answer is cut off")
        at = end
    return lists


def ask(*calls):
    """The answers, a list for each call."""
    lists = split(answers(flat(calls)))
    if len(lists) != len(calls):
        raise AssertionError(f"{len(calls)} calls have {len(lists)} answers")
    return lists


def laid(size, joins):
    return [("begin", size)] + [("join", p, q) for p, q in joins]


def last(*calls):
    return ask(*calls)[-1]


def beside(p, joins):
    return {b if a == p else a for a, b in joins if p in (a, b)}


def burn(joins, row):
    burning = set()
    for place in row:
        for p in sorted(burning):
            burning |= beside(p, joins)
        burning.add(place)
    return burning


@lru_cache(maxsize=None)
def first_of(size, joins, length):
    """The first row of that length that burns all, or None, by trying every row in order."""
    for row in product(range(size), repeat=length):
        if len(burn(joins, row)) == size:
            return row
    return None


@lru_cache(maxsize=None)
def plain_best(size, joins):
    length = 0
    while first_of(size, joins, length) is None:
        length += 1
    return first_of(size, joins, length)


def distances(size, joins, start):
    found = {start: 0}
    edge = [start]
    for p in edge:
        for q in sorted(beside(p, joins)):
            if q not in found:
                found[q] = found[p] + 1
                edge.append(q)
    return found


def how_many_parts(size, joins):
    return len({min(distances(size, joins, p)) for p in range(size)})


class Plain:
    def __init__(self):
        self.size = None
        self.joins = []
        self.lit = []

    def answer(self, call):
        name, given = call[0], call[1:]
        if name != "begin" and self.size is None:
            return [-11]
        return getattr(self, "do_" + name)(*given)

    def lay(self, size, joins):
        self.size, self.joins, self.lit = size, joins, []

    def do_begin(self, n):
        if n not in range(1, 10):
            return [-22]
        self.lay(n, [])
        return [0]

    def do_line(self, n):
        if n not in range(1, 10):
            return [-22]
        self.lay(n, [frozenset((p, p + 1)) for p in range(n - 1)])
        return [n - 1]

    def do_ring(self, n):
        if n not in range(3, 10):
            return [-22]
        self.lay(n, [frozenset((p, (p + 1) % n)) for p in range(n)])
        return [n]

    def do_join(self, p, q):
        if p not in range(self.size) or q not in range(self.size):
            return [-2]
        if p == q:
            return [-22]
        if {p, q} in self.joins:
            return [-17]
        self.joins.append(frozenset((p, q)))
        return [len(self.joins)]

    def do_part(self, p, q):
        if p not in range(self.size) or q not in range(self.size):
            return [-2]
        if {p, q} not in self.joins:
            return [-6]
        self.joins = [pair for pair in self.joins if pair != {p, q}]
        return [len(self.joins)]

    def pairs(self):
        return tuple(sorted(tuple(sorted(pair)) for pair in self.joins))

    def burning(self):
        return sorted(burn(self.pairs(), self.lit))

    def do_light(self, p):
        if p not in range(self.size):
            return [-2]
        if len(self.lit) == self.size:
            return [-28]
        self.lit.append(p)
        return [len(self.burning())]

    def do_out(self):
        were, self.lit = len(self.lit), []
        return [were]

    def do_burns(self):
        return [len(self.burning())] + self.burning()

    def do_left(self):
        unburnt = [p for p in range(self.size) if p not in self.burning()]
        return [len(unburnt)] + unburnt

    def do_turns(self):
        return [len(plain_best(self.size, self.pairs()))]

    def do_best(self):
        row = plain_best(self.size, self.pairs())
        return [len(row)] + list(row)


def plain_answers(calls):
    plain = Plain()
    return [plain.answer(call) for call in calls]
