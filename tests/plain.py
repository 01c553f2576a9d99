"""What the tests share: calls by their names, and the document's words gone through one by one.

The plain object below is slow and knows nothing of the program: it burns turn by turn, looks for the best
row by trying every row, and for the first tree by trying every choice of joins.
"""

from functools import cmp_to_key, lru_cache
from itertools import combinations, product
from random import Random

from litfires.fires import answers

TOP = 4294967295
EDGES = (0, 1, 2, 3, 8, 9, 10, TOP)

NAMES = (
    "begin join part line ring light out burns left turns best row can within with without far root finish "
    "parts tree state"
).split()
ARGUMENTS = dict(zip(NAMES, (1, 2, 2, 1, 1, 1, 0, 0, 0, 0, 0, None, 1, 2, 2, 2, 2, 1, 0, 0, 0, 0)))
CHANGING = ("begin", "join", "part", "line", "ring", "light", "out")


def flat(calls):
    numbers = []
    for call in calls:
        numbers.append(NAMES.index(call[0]))
        for argument in call[1:]:
            if isinstance(argument, (list, tuple)):
                numbers.append(len(argument))
                numbers.extend(argument)
            else:
                numbers.append(argument)
    return numbers


def split(numbers):
    lists = []
    at = 0
    while at < len(numbers):
        end = at + 1 + numbers[at]
        lists.append(numbers[at + 1:end])
        if len(lists[-1]) != numbers[at]:
            raise AssertionError("the last answer is cut off")
        at = end
    return lists


def ask(*calls):
    """The answers, a list for each call."""
    lists = split(answers(flat(calls)))
    if len(lists) != len(calls):
        raise AssertionError(f"{len(calls)} calls have {len(lists)} answers")
    return lists


def laid(size, joins):
    return [("begin", size)] + [("join", p, q) for p, q in joins]


def last(*calls):
    return ask(*calls)[-1]


def best_of(size, joins):
    """What best tells, with turns telling the same number."""
    turns, best = ask(*laid(size, joins), ("turns",), ("best",))[-2:]
    if turns != best[:1] or len(best) != 1 + best[0]:
        raise AssertionError(f"turns {turns}, best {best}")
    return best[1:]


def beside(p, joins):
    return {b if a == p else a for a, b in joins if p in (a, b)}


def burn(joins, row, start=()):
    burning = set(start)
    for place in row:
        for p in sorted(burning):
            burning |= beside(p, joins)
        burning.add(place)
    return burning


@lru_cache(maxsize=None)
def first_of(size, joins, length):
    """The first row of that length that burns all, or None, by trying every row in order."""
    for row in product(range(size), repeat=length):
        if len(burn(joins, row)) == size:
            return row
    return None


@lru_cache(maxsize=None)
def plain_best(size, joins):
    length = 0
    while first_of(size, joins, length) is None:
        length += 1
    return first_of(size, joins, length)


@lru_cache(maxsize=None)
def plain_finish(size, joins, burning):
    """In how few turns more all burns, by trying every row."""
    for length in range(size + 1):
        for row in product(range(size), repeat=length):
            if len(burn(joins, row, burning)) == size:
                return length
    raise AssertionError("a row of all places burns all")


def distances(size, joins, start):
    found = {start: 0}
    edge = [start]
    for p in edge:
        for q in sorted(beside(p, joins)):
            if q not in found:
                found[q] = found[p] + 1
                edge.append(q)
    return found


def parts_of(size, joins):
    """The places of each part, the part with the least place first."""
    return sorted({tuple(sorted(distances(size, joins, p))) for p in range(size)})


def how_many_parts(size, joins):
    return len(parts_of(size, joins))


@lru_cache(maxsize=None)
def trees_of(size, joins):
    """Every choice of the joins, as few as can be, by which as much hangs together."""
    for count in range(len(joins) + 1):
        trees = [some for some in combinations(joins, count) if parts_of(size, some) == parts_of(size, joins)]
        if trees:
            return trees
    raise AssertionError("by all of them as much hangs together")


def ahead(joins):
    """Which of two trees comes ahead: that with the first join, as they were told, that's in one alone."""

    def compared(one, another):
        for pair in joins:
            if pair in one and pair not in another:
                return -1
            if pair in another and pair not in one:
                return 1
        return 0

    return compared


@lru_cache(maxsize=None)
def plain_tree(size, joins):
    """The first tree of those by which all burns in as few turns, or None; joins as they were told."""
    turns = len(plain_best(size, tuple(sorted(joins))))
    good = [some for some in trees_of(size, joins) if len(plain_best(size, tuple(sorted(some)))) == turns]
    return min(good, key=cmp_to_key(ahead(joins)), default=None)


def every_object(size):
    pairs = list(combinations(range(size), 2))
    for count in range(len(pairs) + 1):
        for joins in combinations(pairs, count):
            yield joins


def some_objects(seed, sizes, count):
    random = Random(seed)
    for _ in range(count):
        size = random.choice(sizes)
        thick = random.random()
        pairs = combinations(range(size), 2)
        yield size, tuple(pair for pair in pairs if random.random() < thick)


class Plain:
    def __init__(self):
        self.size = None
        self.joins = []
        self.lit = []

    def answer(self, call):
        name, given = call[0], call[1:]
        if name != "begin" and self.size is None:
            return [-11]
        return getattr(self, "do_" + name)(*given)

    def lay(self, size, joins):
        self.size, self.joins, self.lit = size, joins, []

    def do_begin(self, n):
        if n not in range(1, 10):
            return [-22]
        self.lay(n, [])
        return [0]

    def do_line(self, n):
        if n not in range(1, 10):
            return [-22]
        self.lay(n, [frozenset((p, p + 1)) for p in range(n - 1)])
        return [n - 1]

    def do_ring(self, n):
        if n not in range(3, 10):
            return [-22]
        self.lay(n, [frozenset((p, (p + 1) % n)) for p in range(n)])
        return [n]

    def do_join(self, p, q):
        if p not in range(self.size) or q not in range(self.size):
            return [-2]
        if p == q:
            return [-22]
        if {p, q} in self.joins:
            return [-17]
        self.joins.append(frozenset((p, q)))
        return [len(self.joins)]

    def do_part(self, p, q):
        if p not in range(self.size) or q not in range(self.size):
            return [-2]
        if {p, q} not in self.joins:
            return [-6]
        self.joins = [pair for pair in self.joins if pair != {p, q}]
        return [len(self.joins)]

    def told(self):
        return tuple(tuple(sorted(pair)) for pair in self.joins)

    def pairs(self):
        return tuple(sorted(self.told()))

    def burning(self):
        return sorted(burn(self.pairs(), self.lit))

    def do_light(self, p):
        if p not in range(self.size):
            return [-2]
        if len(self.lit) == self.size:
            return [-28]
        self.lit.append(p)
        return [len(self.burning())]

    def do_out(self):
        were, self.lit = len(self.lit), []
        return [were]

    def do_burns(self):
        return [len(self.burning())] + self.burning()

    def do_left(self):
        unburnt = [p for p in range(self.size) if p not in self.burning()]
        return [len(unburnt)] + unburnt

    def do_turns(self):
        return [len(plain_best(self.size, self.pairs()))]

    def do_best(self):
        row = plain_best(self.size, self.pairs())
        return [len(row)] + list(row)

    def do_row(self, places):
        if any(p not in range(self.size) for p in places) or len(places) > 9:
            return [-22]
        burning = burn(self.pairs(), places)
        return [int(len(burning) == self.size), len(burning)]

    def do_can(self, k):
        if k > 9:
            return [-22]
        row = first_of(self.size, self.pairs(), k)
        return [-33] if row is None else [k] + list(row)

    def do_within(self, p, k):
        if p not in range(self.size):
            return [-2]
        far = distances(self.size, self.pairs(), p)
        near = sorted(q for q in far if far[q] <= k)
        return [len(near)] + near

    def do_with(self, p, q):
        if p not in range(self.size) or q not in range(self.size):
            return [-2]
        if p == q:
            return [-22]
        pair = (min(p, q), max(p, q))
        if pair in self.pairs():
            return [-17]
        return [len(plain_best(self.size, tuple(sorted(self.pairs() + (pair,)))))] + self.do_turns()

    def do_without(self, p, q):
        if p not in range(self.size) or q not in range(self.size):
            return [-2]
        pair = (min(p, q), max(p, q))
        if pair not in self.pairs():
            return [-6]
        fewer = tuple(other for other in self.pairs() if other != pair)
        return [len(plain_best(self.size, fewer))] + self.do_turns()

    def do_far(self, p, q):
        if p not in range(self.size) or q not in range(self.size):
            return [-2]
        return [distances(self.size, self.pairs(), p).get(q, -33)]

    def do_root(self, n):
        if n > 1000:
            return [-22]
        return [min(r for r in range(1001) if r * r >= n)]

    def do_finish(self):
        return [plain_finish(self.size, self.pairs(), frozenset(self.burning())), len(self.lit)]

    def do_parts(self):
        sizes = [len(part) for part in parts_of(self.size, self.pairs())]
        return [len(sizes)] + sizes

    def do_tree(self):
        if self.size > 7 or len(self.joins) > 9:
            return [-28]
        tree = plain_tree(self.size, self.told())
        return [-33] if tree is None else [len(tree)] + [p for pair in tree for p in pair]

    def do_state(self):
        return [self.size, len(self.joins)] + [p for pair in self.told() for p in pair] + self.lit


def plain_answers(calls):
    plain = Plain()
    return [plain.answer(call) for call in calls]
