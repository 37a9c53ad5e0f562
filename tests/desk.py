"""What the tests share: calls put together, answers taken apart, and small groups listed outright."""

from pointgroupsdesk.groups import answers

WORD = 2 ** 64


def new(o, n):
    return [1, o, n]


def add(o, p):
    return [2, o, len(p)] + list(p)


def order(o):
    return [3, o]


def has(o, p):
    return [4, o, len(p)] + list(p)


def at(o, place):
    return [5, o, place % WORD, place // WORD]


def rank(o, p):
    return [6, o, len(p)] + list(p)


def first(o, p):
    return [7, o, len(p)] + list(p)


def orbit(o, i):
    return [8, o, i]


def ways(o, i, j):
    return [9, o, i, j]


def fix(o, i):
    return [10, o, i]


def inside(a, b):
    return [11, a, b]


def join(a, b):
    return [12, a, b]


def commutes(o, p):
    return [13, o, len(p)] + list(p)


def even(o):
    return [14, o]


def number(value):
    """The answer of order, rank or ways for a number of 128 bits."""
    return [0, value % WORD, value // WORD]


def row(p):
    """The answer of at or first for a row."""
    return [0] + list(p)


def points(some):
    """The answer of orbit for some points."""
    return [len(some)] + list(some)


def split(found):
    """The answers of each call, without their counts."""
    parts = []
    place = 0
    while place < len(found):
        count = found[place]
        part = found[place + 1:place + 1 + count]
        if count < 1 or len(part) != count:
            raise AssertionError("a count that does not fit at %d" % place)
        parts.append(part)
        place += 1 + count
    return parts


def ask(*calls):
    return split(answers([x for call in calls for x in call]))


def make(o, n, makers):
    return [new(o, n)] + [add(o, p) for p in makers]


def ask_about(n, makers, calls):
    """The answers of the calls alone, on object 0 with what the makers make."""
    return ask(*make(0, n, makers), *calls)[1 + len(makers):]


def cycles(n, *parts):
    p = list(range(n))
    for part in parts:
        for k, x in enumerate(part):
            p[x] = part[(k + 1) % len(part)]
    return p


def then(p, q):
    return [q[x] for x in p]


def inverse(p):
    return [p.index(x) for x in range(len(p))]


def pairs_out_of_order(p):
    return sum(1 for i in range(len(p)) for j in range(i) if p[j] > p[i])


def listed(n, makers):
    """All members in order, found by doing makers after one another until nothing new comes."""
    none = tuple(range(n))
    met = {none}
    fresh = [none]
    while fresh:
        p = fresh.pop()
        for q in makers:
            r = tuple(q[x] for x in p)
            if r not in met:
                met.add(r)
                fresh.append(r)
    return sorted(met)


def rank_of_all(p):
    """The place of p among all permutations of its points."""
    place = 0
    for i, x in enumerate(p):
        place = place * (len(p) - i) + sum(1 for y in p[i + 1:] if y < x)
    return place


def all_at(n, place):
    """The permutation at that place among all of n points."""
    digits = []
    for k in range(1, n + 1):
        digits.append(place % k)
        place //= k
    left = list(range(n))
    return [left.pop(d) for d in reversed(digits)]


class Shuffler:
    """The same rows each time the tests run."""

    def __init__(self, state):
        self.state = state

    def below(self, n):
        self.state = (self.state * 6364136223846793005 + 1442695040888963407) % WORD
        return (self.state >> 33) % n

    def row(self, n):
        p = list(range(n))
        for i in range(n - 1, 0, -1):
            j = self.below(i + 1)
            p[i], p[j] = p[j], p[i]
        return p

    def big(self, n):
        value = 0
        for _ in range(6):
            value = value * 2 ** 31 + self.below(2 ** 31)
        return value % n


def symmetric(n):
    return [cycles(n, list(range(n))), cycles(n, [0, 1])]


def alternating(n):
    return [cycles(n, [0, 1, k]) for k in range(2, n)]


def blocks(n, width):
    """Every block of that many neighbouring points by itself in every way."""
    makers = []
    for start in range(0, n, width):
        block = list(range(start, min(start + width, n)))
        makers.append(cycles(n, block))
        makers.append(cycles(n, block[:2]))
    return makers


def mathieu24():
    """Points 0 to 22 and one more, as numbers modulo 23 with a point at infinity."""
    squares = {x * x % 23 for x in range(1, 23)}
    turn = [(x + 1) % 23 for x in range(23)] + [23]
    flip = [23] + [-pow(x, -1, 23) % 23 for x in range(1, 23)] + [0]
    bend = [0] * 24
    for x in range(1, 23):
        cube = x ** 3 % 23
        bend[x] = cube * pow(9, -1, 23) % 23 if x in squares else 9 * cube % 23
    bend[23] = 23
    return [turn, flip, bend]


def affine32():
    """The affine maps of five bits."""
    makers = [[x ^ 1 for x in range(32)]]
    for i in range(5):
        for j in range(5):
            if i != j:
                makers.append([x ^ ((x >> i & 1) << j) for x in range(32)])
    return makers


def swapped_blocks(width):
    """Two blocks of points, each in every way, and the two for one another."""
    n = 2 * width
    return [
        cycles(n, list(range(width))),
        cycles(n, [0, 1]),
        [(x + width) % n for x in range(n)],
    ]


def turned_pairs(pairs):
    """Neighbours stay neighbours: pairs of points in every way, and each pair within itself."""
    n = 2 * pairs
    return [cycles(n, [0, 1]), [(x + 2) % n for x in range(n)], cycles(n, [0, 2], [1, 3])]


SMALL_GROUPS = {
    "none alone, one point": (1, []),
    "none alone, three points": (3, []),
    "one swap": (2, [[1, 0]]),
    "a swap beside fixed points": (5, [[0, 3, 2, 1, 4]]),
    "a turn of three": (3, [[1, 2, 0]]),
    "a turn of six": (6, [[1, 2, 3, 4, 5, 0]]),
    "turns and flips of five": (5, [[1, 2, 3, 4, 0], [0, 4, 3, 2, 1]]),
    "turns and flips of four": (4, [[1, 2, 3, 0], [0, 3, 2, 1]]),
    "two swaps together": (4, [[1, 0, 3, 2]]),
    "the four-group": (4, [[1, 0, 3, 2], [2, 3, 0, 1]]),
    "all of three": (3, [[1, 2, 0], [1, 0, 2]]),
    "all of four": (4, [[1, 2, 3, 0], [1, 0, 2, 3]]),
    "all of five": (5, [[1, 2, 3, 4, 0], [1, 0, 2, 3, 4]]),
    "the even ones of four": (4, [[1, 2, 0, 3], [0, 2, 3, 1]]),
    "the even ones of five": (5, [[1, 2, 0, 3, 4], [0, 1, 3, 4, 2]]),
    "two against three": (5, [[1, 0, 2, 3, 4], [0, 1, 3, 4, 2], [0, 1, 3, 2, 4]]),
    "two against three, woven": (5, [[0, 3, 2, 1, 4], [2, 1, 4, 3, 0], [2, 1, 0, 3, 4]]),
    "swaps that go together": (6, [[1, 0, 3, 2, 4, 5], [0, 1, 3, 2, 5, 4]]),
    "three pairs": (6, [[1, 0, 2, 3, 4, 5], [2, 3, 4, 5, 0, 1], [2, 3, 0, 1, 4, 5]]),
    "two threes": (6, [[1, 2, 0, 3, 4, 5], [3, 4, 5, 0, 1, 2]]),
    "a three and its likeness": (6, [[1, 2, 0, 4, 5, 3], [1, 0, 2, 4, 3, 5]]),
    "multiples in seven": (7, [[1, 2, 3, 4, 5, 6, 0], [0, 2, 4, 6, 1, 3, 5]]),
    "lines of seven": (7, [[1, 2, 3, 4, 5, 6, 0], [1, 0, 4, 3, 2, 5, 6]]),
}
