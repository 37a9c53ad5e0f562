"""Promises 2 to 7 on groups small enough to be listed, held against the list."""

import itertools
import unittest

from tests import desk
from tests.desk import add, ask, ask_about, at, first, has, listed, make, number, order, rank, row


def chunks(things, size):
    things = list(things)
    return [things[k:k + size] for k in range(0, len(things), size)]


class SmallGroups(unittest.TestCase):
    def each_group(self):
        for n, makers in desk.SMALL_GROUPS.values():
            yield n, makers, listed(n, makers)

    def check(self, n, makers, calls, wanted):
        for some in chunks(zip(calls, wanted), 250):
            found = ask_about(n, makers, [call for call, _ in some])
            self.assertEqual(found, [want for _, want in some], makers)

    def test_order(self):
        for n, makers, members in self.each_group():
            self.check(n, makers, [order(0)], [number(len(members))])

    def test_has_for_every_row(self):
        for n, makers, members in self.each_group():
            rows = list(itertools.permutations(range(n)))
            wanted = [[1 if p in members else 0] for p in rows]
            self.check(n, makers, [has(0, p) for p in rows], wanted)

    def test_at_at_every_place(self):
        for n, makers, members in self.each_group():
            calls = [at(0, k) for k in range(len(members) + 3)]
            self.check(n, makers, calls, [row(p) for p in members] + [[-1]] * 3)

    def test_rank_of_every_row(self):
        for n, makers, members in self.each_group():
            places = {p: k for k, p in enumerate(members)}
            rows = list(itertools.permutations(range(n)))
            wanted = [number(places[p]) if p in places else [-1] for p in rows]
            self.check(n, makers, [rank(0, p) for p in rows], wanted)

    def test_first_of_every_row(self):
        for n, makers, members in self.each_group():
            rows = list(itertools.permutations(range(n)))
            wanted = [row(min(tuple(g[x] for x in p) for g in members)) for p in rows]
            self.check(n, makers, [first(0, p) for p in rows], wanted)

    def test_add_of_every_row_behind_the_makers(self):
        for n, makers, members in self.each_group():
            if n > 4:
                continue
            for p in itertools.permutations(range(n)):
                found = ask(*make(0, n, makers), add(0, p), order(0))[1 + len(makers):]
                grown = listed(n, makers + [p])
                self.assertEqual(found, [[1 if p not in members else 0], number(len(grown))])

    def test_add_step_by_step(self):
        shuffler = desk.Shuffler(11)
        for n in (4, 5, 6, 6, 7):
            for _ in range(12):
                makers = [shuffler.row(n) for _ in range(3)]
                calls = [desk.new(0, n)]
                wanted = [[0]]
                for k, p in enumerate(makers):
                    before = listed(n, makers[:k])
                    after = listed(n, makers[:k + 1])
                    calls += [add(0, p), order(0)]
                    wanted += [[1 if len(after) > len(before) else 0], number(len(after))]
                    some = [after[shuffler.below(len(after))] for _ in range(5)]
                    calls += [rank(0, q) for q in some]
                    wanted += [number(after.index(q)) for q in some]
                self.assertEqual(ask(*calls), wanted)


if __name__ == "__main__":
    unittest.main()
