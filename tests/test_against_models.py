"""Lists of all calls in any order, refusals among them, held against desks that answer in other ways."""

import unittest

from tests import desk, models
from tests.desk import add, at, commutes, cycles, even, first, fix, has, inside, join, new, order, orbit, rank, ways

FAR_OFF = (-2147483648, -1, 2147483647)


class Caller:
    """Makes calls one after another, each to be answered by the model before the next is made."""

    def __init__(self, kind, seed, most_points):
        self.model = models.ModelDesk(kind)
        self.shuffler = desk.Shuffler(seed)
        self.most_points = most_points
        self.calls = []
        self.wanted = []

    def below(self, n):
        return self.shuffler.below(n)

    def call(self, call):
        self.calls.append(call)
        self.wanted.append(self.model.answer(call))

    def point(self, n):
        return [n, n + 1, *FAR_OFF][self.below(5)] if self.below(12) == 0 else self.below(n)

    def member(self, group):
        return group.at(self.shuffler.big(group.order()))

    def any_row(self, group):
        n = group.n
        choice = self.below(12)
        if choice == 0:
            p = self.shuffler.row(n)
            p[self.below(n)] = [p[0], p[-1], n, 255][self.below(4)]
            return p
        if choice < 4:
            return self.member(group)
        if choice < 6:
            return self.shuffler.row(n)
        if choice < 8:
            return desk.then(self.member(group), self.swap(n))
        return self.swap(n) if choice < 10 else desk.then(self.swap(n), self.swap(n))

    def swap(self, n):
        return cycles(n, [self.below(n), self.below(n)])

    def row_to_add(self, group):
        return self.any_row(group)

    def place(self, group):
        count = group.order()
        return self.shuffler.big(count) if self.below(5) else [count, count - 1, count + desk.WORD, 2 ** 128 - 1][self.below(4)]

    def any_new(self):
        n = [0, -1, 35, -2147483648, 2147483647][self.below(5)] if self.below(3) == 0 else self.number_of_points()
        self.call(new(self.below(2), n))

    def number_of_points(self):
        return self.most_points if self.below(3) else 1 + self.below(self.most_points)

    def any_call(self):
        o = self.below(2)
        other = self.below(2)
        group = self.model.held[o]
        n = group.n
        choice = self.below(20)
        if choice < 3:
            self.call(add(o, self.row_to_add(group)))
        elif choice < 5:
            self.call(join(o, other))
        elif choice == 5:
            self.call(fix(o, self.point(n)))
        elif choice == 6 and self.below(4) == 0:
            self.any_new()
        else:
            p = self.any_row(group)
            looks = [
                order(o), has(o, p), at(o, self.place(group)), rank(o, p), first(o, p), orbit(o, self.point(n)),
                ways(o, self.point(n), self.point(n)), inside(o, other), commutes(o, p), even(o),
            ]
            self.call(looks[self.below(len(looks))])

    def begin(self):
        self.call(new(0, self.most_points))
        self.call(new(1, self.most_points))

    def make_calls(self, count):
        self.begin()
        while len(self.calls) < count:
            self.any_call()


class BlocksCaller(Caller):
    def row_to_add(self, group):
        return self.member(group) if self.below(3) == 0 else self.swap(group.n)

    def begin(self):
        Caller.begin(self)
        for _ in range(60):
            self.call(add(self.below(2), self.swap(self.most_points)))


class AgainstModels(unittest.TestCase):
    def check(self, caller):
        caller.make_calls(300)
        found = desk.ask(*caller.calls)
        for k, call in enumerate(caller.calls):
            self.assertEqual(found[k], caller.wanted[k], (k, call))
        return caller.wanted

    def test_small_groups(self):
        for seed in range(40):
            with self.subTest(seed=seed):
                self.check(Caller(models.ListedGroup, seed, 1 + seed % 6))

    def test_blocks(self):
        for seed in range(30):
            with self.subTest(seed=seed):
                self.check(BlocksCaller(models.BlocksGroup, seed, [34, 33, 20, 34, 26][seed % 5]))

    def test_blocks_come_to_large_orders(self):
        caller = BlocksCaller(models.BlocksGroup, 3, 34)
        wanted = self.check(caller)
        orders = [found for call, found in zip(caller.calls, wanted) if models.NAMES[call[0]] == "order"]
        self.assertTrue([found for found in orders if found[2] > 0])


if __name__ == "__main__":
    unittest.main()
