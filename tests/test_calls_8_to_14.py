"""Promises 8 to 13: orbit, ways, fix, inside, join, commutes and even, their plain answers, edges and refusals."""

import itertools
import unittest

from tests import desk, models
from tests.desk import (
    add, ask, ask_about, at, commutes, cycles, even, first, fix, has, inside, join, make, new, number, orbit, order,
    points, rank, row, ways,
)

TURN = [1, 2, 3, 0]
FLIP = [0, 3, 2, 1]
NO_POINTS_OF_FOUR = (4, 5, 34, 255, 2147483647, -1, -4, -2147483648)
WRONG_ROWS_OF_FOUR = ([0, 1, 2, 2], [0, 0, 0, 0], [1, 2, 3, 4], [4, 1, 2, 3], [0, 1, 2, 255], [255] * 4)


class Orbit(unittest.TestCase):
    def test_plain(self):
        found = ask_about(6, [[2, 1, 5, 4, 3, 0]], [orbit(0, i) for i in range(6)])
        wanted = [[0, 2, 5], [1], [0, 2, 5], [3, 4], [3, 4], [0, 2, 5]]
        self.assertEqual(found, [points(some) for some in wanted])

    def test_is_answered_number_by_number(self):
        self.assertEqual(desk.answers([1, 0, 3, 2, 0, 3, 2, 1, 0, 8, 0, 2, 8, 0, 1]), [1, 0, 1, 1, 3, 2, 0, 2, 2, 1, 1])

    def test_of_none_alone(self):
        for n in (1, 2, 34):
            found = ask(new(0, n), *[orbit(0, i) for i in range(n)])[1:]
            self.assertEqual(found, [[1, i] for i in range(n)])

    def test_every_point_of_small_groups(self):
        for n, makers in desk.SMALL_GROUPS.values():
            members = desk.listed(n, makers)
            wanted = [points(sorted({g[i] for g in members})) for i in range(n)]
            self.assertEqual(ask_about(n, makers, [orbit(0, i) for i in range(n)]), wanted)

    def test_no_point(self):
        calls = [orbit(0, i) for i in NO_POINTS_OF_FOUR]
        found = ask_about(4, [TURN], calls + [order(0), orbit(0, 3)])
        self.assertEqual(found, [[-2]] * len(calls) + [number(4), points([0, 1, 2, 3])])


class Ways(unittest.TestCase):
    def test_plain(self):
        calls = [ways(0, 0, 2), ways(0, 2, 2), ways(0, 0, 1), ways(0, 3, 4), ways(0, 1, 1)]
        self.assertEqual(ask_about(6, [[2, 1, 5, 4, 3, 0]], calls), [number(k) for k in (2, 2, 0, 3, 6)])

    def test_of_none_alone(self):
        for n in (1, 3, 34):
            pairs = [(i, j) for i in (0, n - 1) for j in (0, n // 2, n - 1)]
            found = ask(new(1, n), *[ways(1, i, j) for i, j in pairs])[1:]
            self.assertEqual(found, [number(1 if i == j else 0) for i, j in pairs])

    def test_every_two_points_of_small_groups(self):
        for n, makers in desk.SMALL_GROUPS.values():
            members = desk.listed(n, makers)
            pairs = list(itertools.product(range(n), repeat=2))
            wanted = [number(sum(1 for g in members if g[i] == j)) for i, j in pairs]
            self.assertEqual(ask_about(n, makers, [ways(0, i, j) for i, j in pairs]), wanted)

    def test_no_point(self):
        calls = []
        for i in NO_POINTS_OF_FOUR:
            calls += [ways(0, i, 0), ways(0, 0, i), ways(0, i, i), ways(0, 3, i), ways(0, i, 3)]
        found = ask_about(4, [TURN], calls + [order(0), ways(0, 3, 0)])
        self.assertEqual(found, [[-2]] * len(calls) + [number(4), number(1)])


class Fix(unittest.TestCase):
    def test_plain(self):
        found = ask_about(4, [TURN, FLIP], [fix(0, 1), order(0), at(0, 1), fix(0, 1), fix(0, 3), fix(0, 0), order(0)])
        self.assertEqual(found, [[1], number(2), row([2, 1, 0, 3]), [0], [0], [1], number(1)])

    def test_none_alone_stays(self):
        for n in (1, 2, 34):
            found = ask(new(0, n), *[fix(0, i) for i in range(n)], order(0), at(0, 0))
            self.assertEqual(found[1:], [[0]] * n + [number(1), row(range(n))])

    def test_a_point_that_all_leave_changes_nothing(self):
        found = ask_about(5, [[0, 3, 2, 1, 4]], [fix(0, 0), fix(0, 2), fix(0, 4), order(0), has(0, [0, 3, 2, 1, 4])])
        self.assertEqual(found, [[0], [0], [0], number(2), [1]])

    def test_down_to_none_alone(self):
        found = ask_about(4, [TURN, [1, 0, 2, 3]], [fix(0, 2), order(0), fix(0, 0), order(0), fix(0, 3), order(0), fix(0, 1)])
        self.assertEqual(found, [[1], number(6), [1], number(2), [1], number(1), [0]])

    def test_no_point(self):
        calls = [fix(0, i) for i in NO_POINTS_OF_FOUR]
        look = [order(0), at(0, 1), at(0, 7), orbit(0, 0), fix(0, 0), order(0)]
        wanted = [number(8), row([0, 3, 2, 1]), row([3, 2, 1, 0]), points([0, 1, 2, 3]), [1], number(2)]
        self.assertEqual(ask_about(4, [TURN, FLIP], calls + look), [[-2]] * len(calls) + wanted)

    def test_leaves_the_other_object(self):
        found = ask(*make(0, 4, [TURN]), *make(1, 4, [TURN]), fix(0, 0), order(0), order(1), has(1, TURN), fix(1, 9), order(1))
        self.assertEqual(found[4:], [[1], number(1), number(4), [1], [-2], number(4)])

    def test_new_begins_anew_behind_it(self):
        found = ask(*make(0, 4, [TURN]), fix(0, 0), new(0, 4), add(0, TURN), order(0), orbit(0, 0))
        self.assertEqual(found[2:], [[1], [0], [1], number(4), points([0, 1, 2, 3])])


class Inside(unittest.TestCase):
    def ask_two(self, n, makers, m, others, calls):
        return ask(*make(0, n, makers), *make(1, m, others), *calls)[2 + len(makers) + len(others):]

    def test_plain(self):
        calls = [inside(0, 1), inside(1, 0), order(0), order(1)]
        self.assertEqual(self.ask_two(4, [TURN], 4, [TURN, FLIP], calls), [[1], [0], number(4), number(8)])
        self.assertEqual(self.ask_two(4, [TURN], 4, [FLIP], calls), [[0], [0], number(4), number(2)])

    def test_the_same_group_made_otherwise(self):
        calls = [inside(0, 1), inside(1, 0)]
        self.assertEqual(self.ask_two(4, [TURN], 4, [[3, 0, 1, 2]], calls), [[1], [1]])

    def test_one_object_as_both(self):
        for n, makers in desk.SMALL_GROUPS.values():
            found = ask(*make(1, n, makers), inside(1, 1), order(1))[1 + len(makers):]
            self.assertEqual(found, [[1], number(len(desk.listed(n, makers)))])

    def test_none_alone(self):
        calls = [inside(0, 1), inside(1, 0)]
        self.assertEqual(self.ask_two(4, [], 4, [TURN], calls), [[1], [0]])
        self.assertEqual(self.ask_two(4, [], 4, [], calls), [[1], [1]])
        self.assertEqual(self.ask_two(1, [], 1, [], calls), [[1], [1]])
        self.assertEqual(self.ask_two(34, [], 34, desk.symmetric(34), calls), [[1], [0]])

    def test_not_as_many_points(self):
        calls = [inside(0, 1), inside(1, 0), inside(0, 0), inside(1, 1)]
        for n, m in ((3, 4), (4, 3), (1, 2), (1, 34), (34, 33)):
            self.assertEqual(self.ask_two(n, [], m, [], calls), [[0], [0], [1], [1]])
        self.assertEqual(self.ask_two(3, desk.symmetric(3), 4, desk.symmetric(4), calls), [[0], [0], [1], [1]])
        self.assertEqual(self.ask_two(3, [[1, 0, 2]], 4, [[1, 0, 2, 3]], calls), [[0], [0], [1], [1]])

    def test_every_two_small_groups(self):
        for n, makers in desk.SMALL_GROUPS.values():
            for m, others in desk.SMALL_GROUPS.values():
                wanted = n == m and set(desk.listed(n, makers)) <= set(desk.listed(m, others))
                self.assertEqual(self.ask_two(n, makers, m, others, [inside(0, 1)]), [[1 if wanted else 0]])


class Join(unittest.TestCase):
    def ask_two(self, n, makers, m, others, calls):
        return ask(*make(0, n, makers), *make(1, m, others), *calls)[2 + len(makers) + len(others):]

    def test_plain(self):
        calls = [join(0, 1), order(0), order(1), join(0, 1), join(1, 0), order(1), join(1, 0)]
        wanted = [[1], number(8), number(2), [0], [1], number(8), [0]]
        self.assertEqual(self.ask_two(4, [TURN], 4, [FLIP], calls), wanted)

    def test_what_is_inside_adds_nothing(self):
        calls = [join(0, 1), order(0), order(1)]
        self.assertEqual(self.ask_two(4, [TURN, FLIP], 4, [FLIP], calls), [[0], number(8), number(2)])
        self.assertEqual(self.ask_two(4, [TURN], 4, [], calls), [[0], number(4), number(1)])
        self.assertEqual(self.ask_two(4, [], 4, [], calls), [[0], number(1), number(1)])

    def test_into_none_alone(self):
        calls = [join(0, 1), order(0), has(0, TURN), order(1)]
        self.assertEqual(self.ask_two(4, [], 4, [TURN], calls), [[1], number(4), [1], number(4)])

    def test_one_object_as_both(self):
        for n, makers in desk.SMALL_GROUPS.values():
            size = number(len(desk.listed(n, makers)))
            found = ask(*make(0, n, makers), join(0, 0), order(0), join(0, 0), order(0))[1 + len(makers):]
            self.assertEqual(found, [[0], size, [0], size])

    def test_not_as_many_points(self):
        for n, m in ((3, 4), (4, 3), (1, 2), (2, 1), (34, 33), (1, 34)):
            makers = desk.symmetric(n) if n > 2 else []
            others = desk.symmetric(m) if m > 2 else []
            look = [order(0), order(1), at(0, 0), at(1, 0), at(0, 3), at(1, 3), orbit(0, 0), orbit(1, 0)]
            before = self.ask_two(n, makers, m, others, look)
            found = self.ask_two(n, makers, m, others, [join(0, 1), join(1, 0), join(0, 0), join(1, 1)] + look)
            self.assertEqual(found, [[-1], [-1], [0], [0]] + before)

    def test_points_as_they_are_by_then(self):
        found = ask(new(0, 3), new(1, 4), join(0, 1), new(0, 4), add(1, TURN), join(0, 1), order(0), new(1, 3), join(0, 1))
        self.assertEqual(found[2:], [[-1], [0], [1], [1], number(4), [0], [-1]])

    def test_every_two_small_groups(self):
        for n, makers in desk.SMALL_GROUPS.values():
            for m, others in desk.SMALL_GROUPS.values():
                if n == m:
                    made = len(desk.listed(n, makers + others))
                    grown = made > len(desk.listed(n, makers))
                    other = len(desk.listed(n, others))
                    found = self.ask_two(n, makers, m, others, [join(0, 1), order(0), order(1)])
                    self.assertEqual(found, [[1 if grown else 0], number(made), number(other)])


class Commutes(unittest.TestCase):
    def test_plain(self):
        rows = ([2, 3, 0, 1], TURN, FLIP, [0, 1, 2, 3], [1, 0, 2, 3])
        self.assertEqual(ask_about(4, [TURN], [commutes(0, p) for p in rows]), [[1], [1], [0], [1], [0]])
        self.assertEqual(ask_about(4, [TURN, FLIP], [commutes(0, p) for p in rows]), [[1], [0], [0], [1], [0]])

    def test_a_row_that_is_no_member(self):
        p = [0, 1, 3, 2]
        self.assertEqual(ask_about(4, [[1, 0, 2, 3]], [has(0, p), commutes(0, p), has(0, p), order(0)]), [[0], [1], [0], number(2)])

    def test_every_row_goes_with_none_alone(self):
        for n in (1, 2, 4):
            rows = list(itertools.permutations(range(n)))
            self.assertEqual(ask_about(n, [], [commutes(0, p) for p in rows]), [[1]] * len(rows))
        self.assertEqual(ask(new(0, 34), commutes(0, list(range(34))[::-1]))[1], [1])

    def test_every_row_with_small_groups(self):
        for n, makers in desk.SMALL_GROUPS.values():
            rows = list(itertools.permutations(range(n)))[::1 if n < 6 else 17 if n < 7 else 101]
            members = desk.listed(n, makers)
            rows += members[:40]
            wanted = [[1 if all(desk.then(p, g) == desk.then(g, p) for g in members) else 0] for p in rows]
            self.assertEqual(ask_about(n, makers, [commutes(0, p) for p in rows]), wanted)

    def test_no_permutation(self):
        calls = [commutes(0, p) for p in WRONG_ROWS_OF_FOUR]
        for makers in ([], [TURN], [TURN, FLIP]):
            found = ask_about(4, makers, calls + [order(0), commutes(0, [2, 3, 0, 1])])
            self.assertEqual(found, [[-2]] * len(calls) + [number(len(desk.listed(4, makers))), [1]])
        self.assertEqual(ask(new(0, 1), commutes(0, [1]), commutes(0, [0])), [[0], [-2], [1]])


class Even(unittest.TestCase):
    def test_plain(self):
        self.assertEqual(ask_about(4, [[1, 2, 0, 3]], [even(0)]), [[1]])
        self.assertEqual(ask_about(4, [TURN], [even(0)]), [[0]])
        self.assertEqual(ask_about(4, [[1, 0, 3, 2]], [even(0)]), [[1]])

    def test_of_none_alone(self):
        for n in (1, 2, 34):
            self.assertEqual(ask(new(0, n), even(0)), [[0], [1]])

    def test_small_groups(self):
        for n, makers in desk.SMALL_GROUPS.values():
            wanted = all(desk.pairs_out_of_order(g) % 2 == 0 for g in desk.listed(n, makers))
            self.assertEqual(ask_about(n, makers, [even(0)]), [[1 if wanted else 0]])

    def test_as_the_group_changes(self):
        found = ask(
            new(0, 5), even(0), add(0, [1, 2, 0, 3, 4]), even(0), add(0, [1, 0, 2, 3, 4]), even(0), fix(0, 2), even(0),
            fix(0, 0), even(0), new(1, 5), add(1, [0, 1, 2, 4, 3]), join(0, 1), even(0), new(0, 5), even(0), even(1),
        )
        wanted = [[0], [1], [1], [1], [1], [0], [1], [0], [1], [1], [0], [1], [1], [0], [0], [1], [0]]
        self.assertEqual(found, wanted)

    # A group with odd members may have only even ones among those that leave a point where it is.
    def test_of_what_fix_leaves(self):
        self.assertEqual(ask_about(4, [TURN, FLIP], [even(0), fix(0, 0), even(0)]), [[0], [1], [0]])
        self.assertEqual(ask_about(4, [TURN], [even(0), fix(0, 0), even(0)]), [[0], [1], [1]])
        makers = [[1, 2, 0, 3, 4], [0, 1, 2, 4, 3]]
        self.assertEqual(ask_about(5, makers, [even(0), fix(0, 3), even(0), order(0)]), [[0], [1], [1], number(3)])


def all_about(n, rows):
    """Every call that looks at object 0."""
    calls = [order(0), even(0), inside(0, 0), inside(0, 1), inside(1, 0)]
    calls += [orbit(0, i) for i in range(n)] + [ways(0, i, j) for i in range(n) for j in range(n)]
    calls += [at(0, k) for k in (0, 1, 2, 3, 4, 5, 6, 11, 12, 23, 24, 59, 60, 119, 120, 719, 720)]
    for p in rows:
        calls += [has(0, p), rank(0, p), first(0, p), commutes(0, p)]
    return calls


def changes(n, p):
    """Calls that change object 0, each with looks behind it."""
    calls = []
    for change in (add(0, p), fix(0, p[0]), join(0, 1), fix(0, n - 1), add(0, p), join(1, 0), fix(0, 0)):
        calls += [change, order(0), order(1), has(0, p), rank(0, p), first(0, p), at(0, 1), orbit(0, p[0]), even(0)]
    return calls


class BehindFixAndJoin(unittest.TestCase):
    """What fix and join leave is a group like any other."""

    def check(self, calls):
        model = models.ModelDesk(models.ListedGroup)
        wanted = [model.answer(call) for call in calls]
        found = ask(*calls)
        self.assertLessEqual(len(calls), 300)
        for k, call in enumerate(calls):
            self.assertEqual(found[k], wanted[k], calls[:k + 1])

    def check_behind(self, calls, n, shuffler):
        rows = [shuffler.row(n) for _ in range(20)] + [list(range(n)), cycles(n, [0, n - 1])]
        self.check(calls + all_about(n, rows))
        for p in rows[-3:]:
            self.check(calls + changes(n, p))

    def test_fix(self):
        shuffler = desk.Shuffler(41)
        for n, makers in desk.SMALL_GROUPS.values():
            for i in range(n):
                calls = make(0, n, makers) + make(1, n, makers[:1]) + [fix(0, i)]
                self.check_behind(calls, n, shuffler)

    def test_fix_twice(self):
        shuffler = desk.Shuffler(42)
        for n, makers in desk.SMALL_GROUPS.values():
            i = shuffler.below(n)
            calls = make(0, n, makers) + make(1, n, makers[1:]) + [fix(0, i), fix(0, (i + 1) % n)]
            self.check_behind(calls, n, shuffler)

    def test_join(self):
        shuffler = desk.Shuffler(43)
        for n, makers in desk.SMALL_GROUPS.values():
            others = [shuffler.row(n)] if n < 6 else [cycles(n, [shuffler.below(n), shuffler.below(n)])]
            self.check_behind(make(0, n, makers) + make(1, n, others) + [join(0, 1)], n, shuffler)
            self.check_behind(make(0, n, others) + make(1, n, makers) + [join(0, 1)], n, shuffler)

    def test_fix_then_join_then_fix(self):
        shuffler = desk.Shuffler(44)
        for n, makers in desk.SMALL_GROUPS.values():
            calls = make(0, n, makers) + make(1, n, makers[::-1])
            calls += [fix(0, 0), fix(1, n - 1), join(0, 1), fix(0, n // 2)]
            self.check_behind(calls, n, shuffler)

    def test_both_objects_go_their_own_ways(self):
        shuffler = desk.Shuffler(45)
        for n, makers in desk.SMALL_GROUPS.values():
            for first_makers, second_makers in ((makers, []), ([], makers), (makers[:1], makers[1:])):
                calls = make(0, n, first_makers) + make(1, n, second_makers) + [join(0, 1)]
                for o in (0, 1):
                    for change in (add(o, shuffler.row(n) if n < 6 else cycles(n, [0, 1])), fix(o, shuffler.below(n))):
                        calls += [change]
                        for k in (0, 1):
                            calls += [order(k), even(k), at(k, 1), orbit(k, 0), ways(k, 0, n - 1), inside(k, 1 - k)]
                self.check(calls)

    def test_a_refused_call_changes_nothing(self):
        n = 4
        refused = [fix(0, i) for i in NO_POINTS_OF_FOUR] + [orbit(0, n), ways(0, 0, n), join(0, 1), join(1, 0)]
        refused += [call(0, p) for p in WRONG_ROWS_OF_FOUR for call in (add, has, rank, first, commutes)] + [new(0, 0)]
        for makers in ([], [TURN], [TURN, FLIP], desk.symmetric(4)):
            calls = make(0, n, makers) + make(1, 5, desk.symmetric(5)) + [fix(0, 1), add(0, FLIP)]
            look = all_about(n, [TURN, FLIP, [0, 1, 2, 3], [1, 0, 3, 2]]) + [order(1), at(1, 100)] + changes(n, TURN)
            wanted = ask(*calls, *look)[len(calls):]
            found = ask(*calls, *refused, *look)[len(calls):]
            self.assertEqual({tuple(part) for part in found[:len(refused)]}, {(-2,), (-1,)})
            self.assertEqual(found[len(refused):], wanted)


if __name__ == "__main__":
    unittest.main()
