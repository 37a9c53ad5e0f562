"""Two desks that answer the same calls in other ways than the program, to be held against it.

One lists all members of its groups, which must be small. The other knows groups of one sort alone, which may be large:
the points are in blocks, and the members are all permutations that leave each point in its block.
"""

import math

from tests import desk


class ListedGroup:
    def __init__(self, n):
        self.n = n
        self.members = [tuple(range(n))]

    def grow(self, makers):
        before = len(self.members)
        kept = []
        for p in self.members + makers:
            if p not in self.members_made(kept):
                kept.append(p)
        self.members = list(self.members_made(kept))
        return len(self.members) > before

    def members_made(self, makers):
        key = (self.n, tuple(makers))
        if key not in KNOWN:
            KNOWN[key] = dict.fromkeys(desk.listed(self.n, makers))
        return KNOWN[key]

    def add(self, p):
        return self.grow([p])

    def order(self):
        return len(self.members)

    def has(self, p):
        return p in self.members

    def at(self, place):
        return self.members[place]

    def rank(self, p):
        return sum(1 for g in self.members if g < p)

    def first(self, p):
        return min(desk.then(p, g) for g in self.members)

    def orbit(self, i):
        return sorted({g[i] for g in self.members})

    def ways(self, i, j):
        return sum(1 for g in self.members if g[i] == j)

    def fix(self, i):
        before = len(self.members)
        self.members = [g for g in self.members if g[i] == i]
        return len(self.members) < before

    def inside(self, other):
        return self.n == other.n and set(self.members) <= set(other.members)

    def join(self, other):
        return self.grow(list(other.members))

    def commutes(self, p):
        return all(desk.then(p, g) == desk.then(g, p) for g in self.members)

    def even(self):
        return all(desk.pairs_out_of_order(g) % 2 == 0 for g in self.members)


KNOWN = {}


class BlocksGroup:
    def __init__(self, n):
        self.n = n
        self.block = {x: frozenset([x]) for x in range(n)}

    def blocks(self):
        return set(self.block.values())

    def put_together(self, pairs):
        before = len(self.blocks())
        for x, y in pairs:
            both = self.block[x] | self.block[y]
            self.block.update({z: both for z in both})
        return len(self.blocks()) < before

    def add(self, p):
        moved = [x for x in range(self.n) if p[x] != x]
        if len(moved) != 2 and not self.has(p):
            raise AssertionError("what this makes is not known here")
        return self.put_together((x, p[x]) for x in moved)

    def order(self):
        return math.prod(math.factorial(len(block)) for block in self.blocks())

    def has(self, p):
        return all(y in self.block[x] for x, y in enumerate(p))

    def at(self, place):
        p = []
        each = self.order()
        for x in range(self.n):
            free = sorted(self.block[x] - set(p))
            each //= len(free)
            p.append(free[place // each])
            place %= each
        return p

    def rank(self, p):
        place = 0
        each = self.order()
        for x in range(self.n):
            free = sorted(self.block[x] - set(p[:x]))
            each //= len(free)
            place += each * free.index(p[x])
        return place

    def first(self, p):
        found = []
        for x in p:
            found.append(min(self.block[x] - set(found)))
        return found

    def orbit(self, i):
        return sorted(self.block[i])

    def ways(self, i, j):
        return self.order() // len(self.block[i]) if j in self.block[i] else 0

    def fix(self, i):
        rest = self.block[i] - {i}
        self.block.update({x: rest for x in rest})
        self.block[i] = frozenset([i])
        return len(rest) > 0

    def inside(self, other):
        return self.n == other.n and all(self.block[x] <= other.block[x] for x in range(self.n))

    def join(self, other):
        return self.put_together((x, y) for x in range(self.n) for y in other.block[x])

    # All swaps within a block are members, so p must take each pair of its points to itself.
    def commutes(self, p):
        pairs = ({x, y} for x in range(self.n) for y in self.block[x])
        return all({p[x] for x in pair} == pair for pair in pairs if len(pair) == 2)

    def even(self):
        return len(self.blocks()) == self.n


class ModelDesk:
    def __init__(self, kind):
        self.kind = kind
        self.held = [None, None]

    def answer(self, call):
        name = NAMES[call[0]]
        group = self.held[call[1]]
        if name == "new":
            return self.answer_new(call[1], call[2])
        if name in ("inside", "join"):
            return self.answer_both(name, group, self.held[call[2]])
        if name in ("order", "even"):
            return self.form(name, getattr(group, name)())
        if name == "at":
            place = call[2] + call[3] * desk.WORD
            return self.form(name, group.at(place)) if place < group.order() else [-1]
        if name in ("orbit", "ways", "fix"):
            if not all(0 <= x < group.n for x in call[2:]):
                return [-2]
            return self.form(name, getattr(group, name)(*call[2:]))
        return self.answer_row(name, group, tuple(call[3:]))

    def answer_new(self, o, n):
        if not 1 <= n <= 34:
            return [-2]
        self.held[o] = self.kind(n)
        return [0]

    def answer_both(self, name, group, other):
        if name == "join" and group.n != other.n:
            return [-1]
        return self.form(name, getattr(group, name)(other))

    def answer_row(self, name, group, p):
        if sorted(p) != list(range(group.n)):
            return [-2]
        if name == "rank" and not group.has(p):
            return [-1]
        return self.form(name, getattr(group, name)(p))

    def form(self, name, found):
        if name in ("order", "rank", "ways"):
            return desk.number(found)
        if name in ("at", "first"):
            return desk.row(found)
        if name == "orbit":
            return desk.points(found)
        return [1 if found else 0]


NAMES = {
    1: "new", 2: "add", 3: "order", 4: "has", 5: "at", 6: "rank", 7: "first", 8: "orbit", 9: "ways", 10: "fix",
    11: "inside", 12: "join", 13: "commutes", 14: "even",
}
