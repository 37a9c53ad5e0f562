"""Promises 3 to 7 on groups that are too large to be listed, held against what is known of them otherwise."""

import math
import unittest

from tests import desk
from tests.desk import ask_about, at, cycles, first, has, inverse, number, order, rank, rank_of_all, row, then

ALL = math.factorial(34)


def is_even(p):
    return desk.pairs_out_of_order(p) % 2 == 0


class Orders(unittest.TestCase):
    def check(self, n, makers, wanted):
        self.assertEqual(ask_about(n, makers, [order(0)]), [number(wanted)])

    def test_all_of_34(self):
        self.assertGreater(ALL // 2 ** 64, 0)
        for makers in (
            desk.symmetric(34),
            desk.symmetric(34)[::-1],
            [cycles(34, [0, k]) for k in range(1, 34)],
            [cycles(34, list(range(34))), cycles(34, [32, 33])],
            [cycles(34, list(range(33))), cycles(34, [5, 33])],
        ):
            self.check(34, makers, ALL)

    def test_all_of_each_number_of_points(self):
        for n in range(2, 35):
            self.check(n, desk.symmetric(n), math.factorial(n))

    def test_the_even_ones(self):
        for n in range(3, 35):
            self.check(n, desk.alternating(n), math.factorial(n) // 2)

    def test_all_but_one_point(self):
        for still in (0, 16, 33):
            others = [x for x in range(34) if x != still]
            self.check(34, [cycles(34, others), cycles(34, others[3:5])], math.factorial(33))

    def test_turns(self):
        self.check(34, [cycles(34, list(range(34)))], 34)
        parts = [[0, 1], [2, 3, 4], list(range(5, 10)), list(range(10, 17)), list(range(17, 28))]
        self.check(34, [cycles(34, *parts)], 2 * 3 * 5 * 7 * 11)
        self.check(34, [cycles(34, part) for part in parts], 2 * 3 * 5 * 7 * 11)

    def test_blocks(self):
        for width in (2, 17):
            self.check(34, desk.blocks(34, width), math.factorial(width) ** (34 // width))

    def test_two_blocks_in_step(self):
        first_half = list(range(17))
        second_half = list(range(17, 34))
        self.check(34, [cycles(34, first_half, second_half), cycles(34, [0, 1], [17, 18])], math.factorial(17))

    def test_a_pair_that_tells_odd_from_even(self):
        many = list(range(32))
        self.check(34, [cycles(34, many, [32, 33]), cycles(34, [0, 1], [32, 33])], math.factorial(32))

    def test_two_signs_in_step_but_not_a_third(self):
        makers = []
        for part in ([0, 1, 2, 3, 4], [5, 6, 7, 8, 9], [10, 11, 12, 13, 14]):
            makers.append(cycles(15, part[:3]))
            makers.append(cycles(15, part))
        makers.append(cycles(15, [0, 1], [5, 6], [10, 11]))
        self.check(15, makers, 60 ** 3 * 2)

    def test_blocks_for_one_another(self):
        self.check(34, desk.swapped_blocks(17), 2 * math.factorial(17) ** 2)
        self.check(34, desk.turned_pairs(17), 2 ** 17 * math.factorial(17))

    def test_halving_again_and_again(self):
        makers = []
        for k in range(5):
            step = 2 ** k
            makers.append(cycles(32, *[[x, x + step] for x in range(step)]))
        self.check(32, makers, 2 ** 31)
        self.check(32, makers[::-1], 2 ** 31)

    def test_groups_of_note(self):
        self.check(24, desk.mathieu24(), 244823040)
        self.check(32, desk.affine32(), 319979520)


class AllOf34(unittest.TestCase):
    def setUp(self):
        shuffler = desk.Shuffler(34)
        self.rows = [list(range(34)), list(range(34))[::-1]] + [shuffler.row(34) for _ in range(60)]
        self.places = [0, 1, 2 ** 64 - 1, 2 ** 64, 2 ** 64 + 1, ALL - 1] + [shuffler.big(ALL) for _ in range(60)]

    def test_has(self):
        found = ask_about(34, desk.symmetric(34), [has(0, p) for p in self.rows])
        self.assertEqual(found, [[1]] * len(self.rows))

    def test_rank(self):
        found = ask_about(34, desk.symmetric(34), [rank(0, p) for p in self.rows])
        self.assertEqual(found, [number(rank_of_all(p)) for p in self.rows])
        self.assertGreater(found[1][2], 0)

    def test_at(self):
        found = ask_about(34, desk.symmetric(34), [at(0, k) for k in self.places])
        self.assertEqual(found, [row(desk.all_at(34, k)) for k in self.places])

    def test_at_past_the_end(self):
        places = [ALL, ALL + 1, ALL + 2 ** 64, 2 ** 128 - 1]
        self.assertEqual(ask_about(34, desk.symmetric(34), [at(0, k) for k in places]), [[-1]] * 4)

    def test_first(self):
        found = ask_about(34, desk.symmetric(34), [first(0, p) for p in self.rows])
        self.assertEqual(found, [row(range(34))] * len(self.rows))


class EvenOf34(unittest.TestCase):
    def setUp(self):
        shuffler = desk.Shuffler(17)
        self.rows = [shuffler.row(34) for _ in range(60)]
        self.places = [0, 1, 2 ** 64 - 1, 2 ** 64, ALL // 2 - 1] + [shuffler.big(ALL // 2) for _ in range(60)]

    def ask(self, calls):
        return ask_about(34, desk.alternating(34), calls)

    def test_has(self):
        self.assertEqual(self.ask([has(0, p) for p in self.rows]), [[1 if is_even(p) else 0] for p in self.rows])

    # All permutations come in pairs that differ in their last two numbers, and one of each pair is even.
    def test_rank(self):
        wanted = [number(rank_of_all(p) // 2) if is_even(p) else [-1] for p in self.rows]
        self.assertEqual(self.ask([rank(0, p) for p in self.rows]), wanted)

    def test_at(self):
        pairs = [(desk.all_at(34, 2 * k), desk.all_at(34, 2 * k + 1)) for k in self.places]
        wanted = [row(p if is_even(p) else q) for p, q in pairs]
        self.assertEqual(self.ask([at(0, k) for k in self.places]), wanted)

    def test_at_past_the_end(self):
        self.assertEqual(self.ask([at(0, ALL // 2), at(0, ALL - 1), at(0, 2 ** 128 - 1)]), [[-1]] * 3)

    def test_first(self):
        none = list(range(34))
        odd = none[:32] + [33, 32]
        found = self.ask([first(0, p) for p in self.rows])
        self.assertEqual(found, [row(none if is_even(p) else odd) for p in self.rows])


class Blocks(unittest.TestCase):
    def test_rank_and_at(self):
        shuffler = desk.Shuffler(8)
        half = math.factorial(17)
        rows = [shuffler.row(17) + [17 + x for x in shuffler.row(17)] for _ in range(40)]
        places = [rank_of_all(p[:17]) * half + rank_of_all([x - 17 for x in p[17:]]) for p in rows]
        makers = desk.blocks(34, 17)
        self.assertEqual(ask_about(34, makers, [rank(0, p) for p in rows]), [number(k) for k in places])
        self.assertEqual(ask_about(34, makers, [at(0, k) for k in places]), [row(p) for p in rows])

    # Each number becomes the least of its block that is still free.
    def test_first(self):
        shuffler = desk.Shuffler(9)
        for width in (2, 3, 5, 17, 33):
            makers = desk.blocks(34, width)
            rows = [list(range(34))[::-1]] + [shuffler.row(34) for _ in range(20)]
            wanted = []
            for p in rows:
                free = [k * width for k in range(34)]
                least = []
                for x in p:
                    least.append(free[x // width])
                    free[x // width] += 1
                wanted.append(row(least))
            self.assertEqual(ask_about(34, makers, [first(0, p) for p in rows]), wanted)

    # Neighbours stay neighbours: pairs are numbered as they come up, and within a pair what comes first is even.
    def test_first_with_turned_pairs(self):
        shuffler = desk.Shuffler(10)
        rows = [list(range(34))[::-1]] + [shuffler.row(34) for _ in range(20)]
        wanted = []
        for p in rows:
            met = {}
            least = []
            for x in p:
                if x // 2 not in met:
                    met[x // 2] = (len(met), x)
                pair, earlier = met[x // 2]
                least.append(2 * pair + (0 if x == earlier else 1))
            wanted.append(row(least))
        self.assertEqual(ask_about(34, desk.turned_pairs(17), [first(0, p) for p in rows]), wanted)

    # The half that comes first is the lower one, and both halves are numbered as they come up.
    def test_first_with_swapped_blocks(self):
        shuffler = desk.Shuffler(12)
        rows = [list(range(34))[::-1]] + [shuffler.row(34) for _ in range(20)]
        wanted = []
        for p in rows:
            free = [0, 17] if p[0] < 17 else [17, 0]
            least = []
            for x in p:
                least.append(free[x // 17])
                free[x // 17] += 1
            wanted.append(row(least))
        self.assertEqual(ask_about(34, desk.swapped_blocks(17), [first(0, p) for p in rows]), wanted)


class TurnsAndFlipsOf34(unittest.TestCase):
    def test_all_calls(self):
        none = list(range(34))
        makers = [none[1:] + none[:1], none[::-1]]
        members = desk.listed(34, makers)
        self.assertEqual(len(members), 68)
        shuffler = desk.Shuffler(3)
        rows = [shuffler.row(34) for _ in range(20)]
        calls = [at(0, k) for k in range(70)] + [rank(0, p) for p in members] + [first(0, p) for p in rows]
        wanted = [row(p) for p in members] + [[-1]] * 2 + [number(k) for k in range(68)]
        wanted += [row(min(then(p, g) for g in members)) for p in rows]
        self.assertEqual(ask_about(34, makers, calls), wanted)


class AgreeWithOneAnother(unittest.TestCase):
    GROUPS = (
        (24, desk.mathieu24(), 244823040),
        (32, desk.affine32(), 319979520),
        (34, desk.swapped_blocks(17), 2 * math.factorial(17) ** 2),
        (34, desk.turned_pairs(17), 2 ** 17 * math.factorial(17)),
    )

    def some(self, n, makers, size, count):
        shuffler = desk.Shuffler(n)
        places = sorted({0, size - 1} | {shuffler.big(size) for _ in range(count)})
        return places, [found[1:] for found in ask_about(n, makers, [at(0, k) for k in places])]

    def test_at_is_in_order_and_rank_turns_it_round(self):
        for n, makers, size in self.GROUPS:
            places, rows = self.some(n, makers, size, 40)
            self.assertEqual(rows, sorted(rows))
            self.assertEqual(ask_about(n, makers, [rank(0, p) for p in rows]), [number(k) for k in places])
            self.assertEqual(ask_about(n, makers, [has(0, p) for p in rows]), [[1]] * len(rows))
            self.assertEqual(ask_about(n, makers, [at(0, size)]), [[-1]])

    def test_members_done_after_one_another_are_members(self):
        for n, makers, size in self.GROUPS:
            rows = self.some(n, makers, size, 20)[1]
            products = [then(p, q) for p, q in zip(rows, rows[1:])] + [inverse(p) for p in rows]
            self.assertEqual(ask_about(n, makers, [has(0, p) for p in products]), [[1]] * len(products))

    def test_first_is_the_same_for_all_that_come_to_one_another(self):
        for n, makers, size in self.GROUPS:
            members = self.some(n, makers, size, 20)[1]
            p = desk.Shuffler(n + 1).row(n)
            reached = [then(p, g) for g in members]
            found = ask_about(n, makers, [first(0, q) for q in reached])
            self.assertEqual(found, [found[0]] * len(found))
            least = found[0][1:]
            self.assertLessEqual(least, min(reached))
            self.assertEqual(ask_about(n, makers, [has(0, then(inverse(p), least))]), [[1]])

    def test_first_of_a_member_is_none(self):
        for n, makers, size in self.GROUPS:
            rows = self.some(n, makers, size, 20)[1]
            self.assertEqual(ask_about(n, makers, [first(0, p) for p in rows]), [row(range(n))] * len(rows))


if __name__ == "__main__":
    unittest.main()
