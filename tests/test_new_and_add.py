"""Promises 1 and 2: new and add, their edges and refusals."""

import math
import unittest

from tests import desk
from tests.desk import add, ask, at, cycles, first, has, make, new, number, order, rank, row


class New(unittest.TestCase):
    def test_is_none_alone(self):
        for n in range(1, 35):
            none = list(range(n))
            found = ask(new(0, n), order(0), has(0, none), at(0, 0), at(0, 1), rank(0, none), first(0, none[::-1]))
            self.assertEqual(found, [[0], number(1), [1], row(none), [-1], number(0), row(none[::-1])])

    def test_has_nothing_but_none(self):
        self.assertEqual(ask(new(1, 3), has(1, [1, 0, 2]), rank(1, [1, 0, 2])), [[0], [0], [-1]])

    def test_one_point(self):
        found = ask(new(0, 1), add(0, [0]), order(0), at(0, 0), at(0, 1), rank(0, [0]), first(0, [0]), has(0, [1]))
        self.assertEqual(found, [[0], [0], number(1), [0, 0], [-1], number(0), [0, 0], [-2]])

    def test_refused(self):
        for n in (0, 35, 36, 255, 256, 2147483647, -1, -34, -2147483648):
            for o in (0, 1):
                self.assertEqual(ask(new(o, n)), [[-2]])

    def test_refused_leaves_the_object(self):
        makers = [[1, 2, 0, 3], [0, 1, 3, 2]]
        for n in (0, 35, -5):
            found = ask(*make(0, 4, makers), new(0, n), order(0), has(0, [3, 2, 1, 0]), at(0, 23), add(0, [1, 0, 2, 3]))
            self.assertEqual(found[3:], [[-2], number(24), [1], row([3, 2, 1, 0]), [0]])

    def test_refused_at_first_and_then_taken(self):
        self.assertEqual(ask(new(0, 0), new(0, 35), new(0, 2), order(0)), [[-2], [-2], [0], number(1)])

    def test_again_begins_anew(self):
        found = ask(*make(0, 3, [[1, 2, 0]]), new(0, 3), order(0), has(0, [1, 2, 0]), add(0, [1, 2, 0]), order(0))
        self.assertEqual(found[2:], [[0], number(1), [0], [1], number(3)])

    def test_again_with_other_points(self):
        found = ask(*make(0, 3, [[1, 2, 0]]), new(0, 5), at(0, 0), new(0, 2), at(0, 0), add(0, [1, 0]), at(0, 1))
        self.assertEqual(found[2:], [[0], row(range(5)), [0], row([0, 1]), [1], row([1, 0])])


class Add(unittest.TestCase):
    def test_grows_and_does_not(self):
        found = ask(
            new(0, 4),
            add(0, [1, 0, 2, 3]), order(0),
            add(0, [0, 1, 3, 2]), order(0),
            add(0, [1, 0, 3, 2]), order(0),
            add(0, [2, 3, 0, 1]), order(0),
            add(0, [1, 2, 3, 0]), order(0),
        )
        wanted = [[0], [1], number(2), [1], number(4), [0], number(4), [1], number(8), [1], number(24)]
        self.assertEqual(found, wanted)

    def test_none_adds_nothing(self):
        for n in (1, 2, 7, 34):
            none = list(range(n))
            makers = [none[1:] + none[:1]] if n > 1 else []
            found = ask(*make(0, n, makers), add(0, none), order(0))
            self.assertEqual(found[-2:], [[0], number(n)])

    def test_the_same_again(self):
        p = cycles(34, list(range(34)))
        self.assertEqual(ask(new(0, 34), add(0, p), add(0, p), order(0)), [[0], [1], [0], number(34)])

    def test_every_member_of_a_large_group_adds_nothing(self):
        shuffler = desk.Shuffler(5)
        calls = [add(0, shuffler.row(34)) for _ in range(40)]
        found = ask(*make(0, 34, desk.symmetric(34)), *calls, order(0))
        self.assertEqual(found[3:], [[0]] * 40 + [number(math.factorial(34))])

    def test_from_even_to_all(self):
        found = ask(*make(0, 34, desk.alternating(34)), order(0), add(0, cycles(34, [7, 30])), order(0))
        self.assertEqual(found[1:], [[1]] * 32 + [number(math.factorial(34) // 2), [1], number(math.factorial(34))])

    def test_neighbours_one_after_another(self):
        up = [cycles(34, [k, k + 1]) for k in range(33)]
        for makers in (up, up[::-1], up[::2] + up[1::2]):
            calls = [new(0, 34)]
            wanted = [[0]]
            block_of = {x: frozenset([x]) for x in range(34)}
            for p in makers:
                k = next(x for x in range(34) if p[x] != x)
                joined = block_of[k] | block_of[k + 1]
                block_of.update({x: joined for x in joined})
                calls += [add(0, p), order(0)]
                sizes = [len(block) for block in set(block_of.values())]
                wanted += [[1], number(math.prod(math.factorial(size) for size in sizes))]
            self.assertEqual(ask(*calls), wanted)

    def test_blocks_that_come_together(self):
        makers = desk.blocks(34, 17)
        half = math.factorial(17)
        found = ask(*make(0, 34, makers), order(0), add(0, cycles(34, [3, 20])), order(0))
        self.assertEqual(found[5:], [number(half * half), [1], number(math.factorial(34))])

    def test_none_comes_of_many_makers_that_are_members(self):
        members = desk.listed(6, [[1, 2, 3, 4, 5, 0], [1, 0, 2, 3, 4, 5]])
        found = ask(*make(0, 6, [[1, 2, 3, 4, 5, 0], [1, 0, 2, 3, 4, 5]]), *[add(0, p) for p in members[::4]])
        self.assertEqual(found[3:], [[0]] * 180)


if __name__ == "__main__":
    unittest.main()
