"""Promises 8 to 13 on groups that are too large to be listed, and what fix and join leave of them."""

import math
import unittest

from tests import desk
from tests.desk import (
    add, ask, ask_about, at, commutes, cycles, even, first, fix, has, inside, inverse, join, make, number, orbit,
    order, points, rank, row, then, ways,
)

NONE = list(range(34))
HALF = math.factorial(17)


def even_halves():
    """The even ones of both halves of 34 points."""
    return [cycles(34, NONE[:17]), cycles(34, [0, 1, 2]), cycles(34, NONE[17:]), cycles(34, [31, 32, 33])]


def five_bits():
    """The affine maps of five bits, by three of them."""
    return [[x ^ 1 for x in range(32)], [x * 2 % 32 + x // 16 for x in range(32)], [x ^ x % 2 * 2 for x in range(32)]]


def in_step():
    """Two halves of 34 points, both in the same way."""
    return [cycles(34, NONE[:17], NONE[17:]), cycles(34, [0, 1], [17, 18])]


def woven(n, makers):
    """The same group with its points under other names."""
    names = desk.Shuffler(n).row(n)
    return [then(then(inverse(names), p), names) for p in makers]


def leaving(n, makers, i):
    """Makers of the members that leave i where it is, found by Schreier's lemma."""
    out = {i: list(range(n))}
    fresh = [i]
    while fresh:
        x = fresh.pop()
        for p in makers:
            if p[x] not in out:
                out[p[x]] = then(out[x], p)
                fresh.append(p[x])
    found = [then(then(out[x], p), inverse(out[p[x]])) for x in out for p in makers]
    return sorted({tuple(p) for p in found} - {tuple(range(n))})


GROUPS = {
    "all of 34": (34, desk.symmetric(34), math.factorial(34)),
    "the even ones of 34": (34, [cycles(34, NONE[:33]), cycles(34, [31, 32, 33])], math.factorial(34) // 2),
    "two blocks": (34, desk.blocks(34, 17), HALF ** 2),
    "two blocks, the even ones of each": (34, even_halves(), HALF ** 2 // 4),
    "two blocks in step": (34, in_step(), HALF),
    "two blocks and one another": (34, desk.swapped_blocks(17), 2 * HALF ** 2),
    "pairs and one another": (34, desk.turned_pairs(17), 2 ** 17 * math.factorial(17)),
    "pairs": (34, desk.blocks(34, 2), 2 ** 17),
    "five bits": (32, five_bits(), 319979520),
    "24 of note": (24, desk.mathieu24(), 244823040),
    "a turn": (34, [cycles(34, NONE)], 34),
    "turns and flips": (34, [cycles(34, NONE), NONE[::-1]], 68),
}


def each_group():
    for n, makers, size in GROUPS.values():
        yield n, makers, size
        yield n, woven(n, makers), size


class LargeGroups(unittest.TestCase):
    def test_sizes(self):
        for n, makers, size in each_group():
            self.assertEqual(ask_about(n, makers, [order(0)]), [number(size)])

    def test_orbit(self):
        for n, makers, _ in each_group():
            wanted = []
            for i in range(n):
                met = {i}
                while {p[x] for p in makers for x in met} - met:
                    met |= {p[x] for p in makers for x in met}
                wanted.append(points(sorted(met)))
            self.assertEqual(ask_about(n, makers, [orbit(0, i) for i in range(n)]), wanted)

    def test_ways(self):
        for n, makers, size in each_group():
            for i in (0, n // 2, n - 1):
                reached = ask_about(n, makers, [orbit(0, i)])[0][1:]
                wanted = [number(size // len(reached) if j in reached else 0) for j in range(n)]
                self.assertEqual(ask_about(n, makers, [ways(0, i, j) for j in range(n)]), wanted)

    def test_ways_past_64_bits(self):
        found = ask_about(34, desk.symmetric(34), [ways(0, 3, 3), ways(0, 0, 33), ways(0, 33, 0)])
        self.assertEqual(found, [number(math.factorial(33))] * 3)
        self.assertGreater(found[0][2], 0)
        found = ask_about(34, desk.blocks(34, 17), [ways(0, 3, 16), ways(0, 33, 17), ways(0, 16, 17)])
        self.assertEqual(found, [number(HALF * math.factorial(16))] * 2 + [number(0)])
        self.assertGreater(found[0][2], 0)

    def test_even(self):
        for n, makers, _ in each_group():
            wanted = all(desk.pairs_out_of_order(p) % 2 == 0 for p in makers)
            self.assertEqual(ask_about(n, makers, [even(0)]), [[1 if wanted else 0]])

    def test_commutes(self):
        flip = [x ^ 1 for x in NONE]
        over = [(x + 17) % 34 for x in NONE]
        turn = cycles(34, NONE)
        rows = (NONE, flip, over, turn, NONE[::-1], cycles(34, [0, 1]))
        wanted = {
            "all of 34": [1, 0, 0, 0, 0, 0],
            "the even ones of 34": [1, 0, 0, 0, 0, 0],
            "two blocks": [1, 0, 0, 0, 0, 0],
            "two blocks in step": [1, 0, 1, 0, 0, 0],
            "two blocks and one another": [1, 0, 0, 0, 0, 0],
            "pairs and one another": [1, 1, 0, 0, 0, 0],
            "pairs": [1, 1, 0, 0, 0, 1],
            "a turn": [1, 0, 1, 1, 0, 0],
            "turns and flips": [1, 0, 1, 0, 0, 0],
        }
        for name, answers in wanted.items():
            n, makers, _ = GROUPS[name]
            found = ask_about(n, makers, [commutes(0, p) for p in rows] + [commutes(0, [33] + NONE[:32] + [0])])
            self.assertEqual(found, [[k] for k in answers] + [[-2]], name)

    def test_refusals(self):
        for n, makers, size in each_group():
            calls = []
            for i in (n, n + 1, -1, 2147483647, -2147483648):
                calls += [orbit(0, i), ways(0, i, 0), ways(0, n - 1, i), fix(0, i)]
            calls += [commutes(0, [0] + list(range(n - 1))), commutes(0, list(range(1, n + 1)))]
            found = ask_about(n, makers, calls + [order(0), orbit(0, n - 1)])
            self.assertEqual(found[:-2], [[-2]] * len(calls))
            self.assertEqual(found[-2:], ask_about(n, makers, [order(0), orbit(0, n - 1)]))


class FixOfLargeGroups(unittest.TestCase):
    def test_is_what_leaves_the_point(self):
        for n, makers, size in each_group():
            for i in (0, n // 2 - 1, n - 1):
                others = leaving(n, makers, i)
                calls = make(0, n, makers) + [fix(0, i)] + make(1, n, others)
                look = [inside(0, 1), inside(1, 0), order(0), order(1), orbit(0, i), even(1)]
                found = ask(*calls, *look, even(0))[len(calls):]
                self.assertEqual(found[:2], [[1], [1]])
                self.assertEqual(found[2], number(size // len(ask_about(n, makers, [orbit(0, i)])[0][1:])))
                self.assertEqual(found[3], found[2])
                self.assertEqual(found[4], [1, i])
                self.assertEqual(found[5], found[6])

    def test_all_of_34_down_to_none(self):
        for makers, low in ((desk.symmetric(34), 1), (desk.alternating(34), 2)):
            for left in (NONE, NONE[::-1], desk.Shuffler(6).row(34)):
                calls = []
                wanted = []
                for k, i in enumerate(left):
                    size = max(math.factorial(33 - k) // low, 1)
                    shrunk = k < (33 if low == 1 else 32)
                    calls += [fix(0, i), order(0), fix(0, i)]
                    wanted += [[1 if shrunk else 0], number(size), [0]]
                self.assertEqual(ask_about(34, makers, calls), wanted)

    def test_24_of_note(self):
        for makers in (desk.mathieu24(), woven(24, desk.mathieu24())):
            left = desk.Shuffler(9).row(24)[:5]
            calls = [call for i in left for call in (fix(0, i), order(0))]
            found = ask_about(24, makers, calls + [even(0)])
            sizes = (10200960, 443520, 20160, 960, 48)
            self.assertEqual(found[0:10:2], [[1]] * 5)
            self.assertEqual(found[1:10:2], [number(size) for size in sizes])
            self.assertEqual(found[10], [1])

    def test_two_blocks_and_one_another(self):
        calls = [fix(0, 20), order(0), orbit(0, 20), orbit(0, 0), orbit(0, 33), even(0), ways(0, 0, 16), ways(0, 0, 17)]
        found = ask_about(34, desk.swapped_blocks(17), calls)
        rest = [x for x in NONE[17:] if x != 20]
        wanted = [[1], number(HALF * math.factorial(16)), [1, 20], points(NONE[:17]), points(rest), [0]]
        wanted += [number(math.factorial(16) ** 2), number(0)]
        self.assertEqual(found, wanted)

    def test_commutes_with_what_is_left(self):
        away = cycles(34, [7, 21])
        calls = [commutes(0, away), fix(0, 7), commutes(0, away), fix(0, 21), commutes(0, away), commutes(0, cycles(34, [7, 8]))]
        self.assertEqual(ask_about(34, desk.symmetric(34), calls), [[0], [1], [0], [1], [1], [0]])


class JoinOfLargeGroups(unittest.TestCase):
    def ask_two(self, n, makers, others, calls):
        return ask(*make(0, n, makers), *make(1, n, others), *calls)[2 + len(makers) + len(others):]

    def test_of_what_two_points_leave(self):
        for n, makers in ((34, desk.symmetric(34)), (24, desk.mathieu24()), (34, desk.alternating(34))):
            size = ask_about(n, makers, [order(0)])[0]
            calls = [fix(0, 3), fix(1, n - 1), inside(0, 1), join(0, 1), order(0), inside(1, 0), inside(0, 1)]
            found = self.ask_two(n, makers, makers, calls + [join(1, 0), join(1, 0), inside(0, 1), order(1)])
            self.assertEqual(found, [[1], [1], [0], [1], size, [1], [0], [1], [0], [1], size])

    def test_is_what_both_make(self):
        groups = [(makers, size) for n, makers, size in GROUPS.values() if n == 34]
        for makers, size in groups:
            for others, other_size in groups:
                calls = [join(0, 1), order(0), even(0), orbit(0, 0), order(1), inside(1, 0)]
                found = self.ask_two(34, makers, others, calls)
                wanted = ask_about(34, makers + others, [order(0), even(0), orbit(0, 0)])
                grown = wanted[0] != number(size)
                self.assertEqual(found, [[1 if grown else 0]] + wanted + [number(other_size), [1]])

    def test_inside(self):
        wanted = {
            ("the even ones of 34", "all of 34"): 1,
            ("all of 34", "the even ones of 34"): 0,
            ("two blocks in step", "two blocks"): 1,
            ("two blocks", "two blocks in step"): 0,
            ("two blocks", "two blocks and one another"): 1,
            ("two blocks, the even ones of each", "two blocks"): 1,
            ("two blocks, the even ones of each", "the even ones of 34"): 1,
            ("two blocks in step", "the even ones of 34"): 1,
            ("pairs", "pairs and one another"): 1,
            ("pairs and one another", "pairs"): 0,
            ("pairs", "two blocks"): 0,
            ("a turn", "turns and flips"): 1,
            ("a turn", "two blocks and one another"): 0,
            ("a turn", "pairs and one another"): 0,
            ("turns and flips", "all of 34"): 1,
        }
        for (one, other), answer in wanted.items():
            calls = [inside(0, 1), inside(0, 0), inside(1, 1)]
            found = self.ask_two(34, GROUPS[one][1], GROUPS[other][1], calls)
            self.assertEqual(found, [[answer], [1], [1]], (one, other))

    def test_one_object_as_both(self):
        for n, makers, _ in each_group():
            look = [order(1), at(1, 5), orbit(1, 3), even(1)]
            before = ask(*make(1, n, makers), *look)[-4:]
            self.assertEqual(ask(*make(1, n, makers), join(1, 1), inside(1, 1), *look)[-6:], [[0], [1]] + before)

    def test_not_as_many_points(self):
        for n, m in ((34, 33), (33, 34), (34, 24)):
            calls = make(0, n, desk.symmetric(n)) + make(1, m, desk.symmetric(m))
            found = ask(*calls, join(0, 1), inside(0, 1), join(1, 0), inside(1, 0), order(0), order(1))[len(calls):]
            self.assertEqual(found, [[-1], [0], [-1], [0], number(math.factorial(n)), number(math.factorial(m))])

    def test_both_objects_go_their_own_ways(self):
        for makers, others in ((desk.symmetric(34), []), ([], desk.symmetric(34)), (desk.blocks(34, 17), in_step())):
            calls = [join(0, 1), fix(0, 0), order(1), fix(1, 5), order(0), join(1, 0), fix(1, 0), order(0), order(1)]
            found = self.ask_two(34, makers, others, calls)
            made = makers + others
            left = ask_about(34, made, [fix(0, 0), order(0)])[1]
            self.assertEqual(found[2], ask_about(34, others, [order(0)])[0])
            self.assertEqual(found[4], left)
            self.assertEqual(found[7], left)


class BehindFixAndJoinOfLargeGroups(unittest.TestCase):
    """What fix and join leave answers every call, and the answers go together."""

    def preludes(self):
        for n, makers, _ in each_group():
            yield n, make(0, n, makers) + [fix(0, n // 2)], (n // 2,)
            yield n, make(0, n, makers) + [fix(0, n - 1), fix(0, 0)], (n - 1, 0)
            yield n, make(0, n, makers) + make(1, n, makers) + [fix(0, 1), fix(1, n - 2), fix(1, 1), join(0, 1)], (1,)

    def test_answers_go_together(self):
        for n, prelude, still in self.preludes():
            found = ask(*prelude, order(0))[-1]
            size = found[1] + found[2] * desk.WORD
            shuffler = desk.Shuffler(n)
            places = sorted({0, size - 1} | {shuffler.big(size) for _ in range(12)})
            found = ask(*prelude, *[at(0, k) for k in places], at(0, size), at(0, 2 ** 128 - 1))[len(prelude):]
            self.assertEqual(found[-2:], [[-1], [-1]])
            members = [part[1:] for part in found[:-2]]
            self.assertEqual(members, sorted(members))
            for p in members:
                self.assertEqual([p[i] for i in still], list(still))
            products = [then(p, q) for p, q in zip(members, members[1:])] + [inverse(p) for p in members]
            calls = [rank(0, p) for p in members] + [first(0, p) for p in members]
            calls += [has(0, p) for p in products] + [add(0, p) for p in products]
            wanted = [number(k) for k in places] + [row(range(n))] * len(members)
            wanted += [[1]] * len(products) + [[0]] * len(products)
            p = shuffler.row(n)
            reached = [then(p, g) for g in members]
            calls += [first(0, q) for q in reached]
            found = ask(*prelude, *calls)[len(prelude):]
            self.assertEqual(found[:len(wanted)], wanted)
            self.check_first(prelude, p, reached, found[len(wanted):])

    def check_first(self, prelude, p, reached, found):
        self.assertEqual(found, [found[0]] * len(reached))
        least = found[0][1:]
        self.assertLessEqual(least, min(reached))
        self.assertEqual(ask(*prelude, has(0, then(inverse(p), least)))[-1], [1])

    def test_strangers_are_not_there(self):
        for n, prelude, still in self.preludes():
            moved = cycles(n, [still[0], (still[0] + 1) % n])
            found = ask(*prelude, has(0, moved), rank(0, moved), order(0), at(0, 0))[len(prelude):]
            self.assertEqual(found[:2], [[0], [-1]])
            self.assertEqual(found[3], row(range(n)))

    def test_makers_added_again_make_it_whole_again(self):
        for n, makers, size in each_group():
            for i in (0, n // 2, n - 1):
                calls = make(0, n, makers) + make(1, n, makers) + [fix(0, i)]
                again = [add(0, p) for p in makers]
                found = ask(*calls, *again, order(0), inside(0, 1), inside(1, 0), even(0), even(1))[len(calls) + len(again):]
                self.assertEqual(found[:3], [number(size), [1], [1]])
                self.assertEqual(found[3], found[4])

    def test_all_of_what_is_left(self):
        still = (4, 19, 33)
        others = [x for x in NONE if x not in still]
        prelude = make(0, 34, desk.symmetric(34)) + [fix(0, i) for i in still]
        shuffler = desk.Shuffler(31)
        places = [0, 1, 2 ** 64, math.factorial(31) - 1] + [shuffler.big(math.factorial(31)) for _ in range(30)]
        rows = []
        for k in places:
            p = list(NONE)
            for x, y in zip(others, desk.all_at(31, k)):
                p[x] = others[y]
            rows.append(p)
        calls = [at(0, k) for k in places] + [rank(0, p) for p in rows]
        found = ask(*prelude, *calls)[len(prelude):]
        self.assertEqual(found, [row(p) for p in rows] + [number(k) for k in places])

    def test_grows_one_by_one_behind_fix(self):
        calls = make(0, 34, desk.symmetric(34)) + [fix(0, i) for i in range(34)]
        grow = [add(0, cycles(34, [k, k + 1])) for k in range(33)]
        found = ask(*calls, *[call for step in grow for call in (step, order(0))])[len(calls):]
        self.assertEqual(found[0::2], [[1]] * 33)
        self.assertEqual(found[1::2], [number(math.factorial(k + 2)) for k in range(33)])


if __name__ == "__main__":
    unittest.main()
