"""The form of what is handed in and given back, the two objects, and lists of the full length."""

import contextlib
import io
import math
import time
import unittest

from pointgroupsdesk.groups import answers
from tests import desk
from tests.desk import (
    add, ask, at, commutes, cycles, even, first, fix, has, inside, join, make, new, number, orbit, order, points, rank,
    row, ways,
)

# Far more than the slowest list here takes: only an answer that is out of all proportion is to fail.
SECONDS = 60


class Untouchable(list):
    """A list that tells when it is about to be changed."""

    def refuse(self, *rest):
        raise AssertionError("the list that was handed in is being changed")

    append = extend = insert = pop = remove = clear = sort = reverse = refuse
    __setitem__ = __delitem__ = __iadd__ = __imul__ = refuse


def flat(calls):
    return [x for call in calls for x in call]


class Form(unittest.TestCase):
    def test_number_by_number(self):
        calls = [1, 0, 3, 2, 0, 3, 1, 2, 0, 3, 0, 4, 0, 3, 2, 0, 1, 5, 0, 1, 0, 6, 0, 3, 2, 0, 1, 7, 0, 3, 0, 2, 1]
        found = [1, 0, 1, 1, 3, 0, 3, 0, 1, 1, 4, 0, 1, 2, 0, 3, 0, 2, 0, 4, 0, 0, 2, 1]
        self.assertEqual(answers(calls), found)

    def test_number_by_number_from_orbit_on(self):
        calls = [1, 0, 3, 1, 1, 3, 2, 0, 3, 1, 2, 0, 8, 0, 2, 9, 0, 1, 2, 11, 0, 1, 12, 1, 0, 13, 1, 3, 2, 0, 1, 14, 1]
        found = [1, 0, 1, 0, 1, 1, 4, 3, 0, 1, 2, 3, 0, 1, 0, 1, 0, 1, 1, 1, 1, 1, 1]
        calls += [10, 0, 2, 10, 0, 2, 11, 0, 1, 8, 0, 2]
        found += [1, 1, 1, 0, 1, 1, 2, 1, 2]
        self.assertEqual(answers(calls), found)

    def test_refusals_from_orbit_on_are_one_number(self):
        calls = [1, 0, 2, 1, 1, 3, 8, 0, 2, 9, 0, 0, 2, 9, 0, -1, 0, 10, 0, 2, 12, 0, 1, 12, 1, 0, 13, 0, 2, 0, 0, 14, 0]
        self.assertEqual(answers(calls), [1, 0, 1, 0, 1, -2, 1, -2, 1, -2, 1, -2, 1, -1, 1, -1, 1, -2, 1, 1])

    def test_refusals_are_one_number(self):
        self.assertEqual(answers([1, 0, 2, 1, 0, 0, 2, 0, 2, 1, 1, 5, 0, 1, 0, 6, 0, 2, 1, 0]), [1, 0, 1, -2, 1, -2, 1, -1, 1, -1])

    def test_one_call(self):
        self.assertEqual(answers([1, 0, 1]), [1, 0])
        self.assertEqual(answers([1, 1, 34]), [1, 0])

    def test_two_words_the_low_one_first(self):
        found = ask(*make(0, 34, desk.symmetric(34)), order(0))[-1]
        self.assertEqual(found, [0, math.factorial(34) % 2 ** 64, math.factorial(34) // 2 ** 64])
        self.assertEqual(ask(*make(0, 34, desk.symmetric(34)), [5, 0, 0, 1])[-1], row(desk.all_at(34, 2 ** 64)))

    def test_kinds(self):
        calls = make(0, 4, [[1, 2, 3, 0], [1, 2, 3, 0]])
        calls += [order(0), has(0, [1, 2, 3, 0]), has(0, [1, 0, 2, 3]), at(0, 2), at(0, 9), rank(0, [3, 0, 1, 2])]
        calls += [first(0, [3, 2, 1, 0]), new(0, 0), orbit(0, 1), orbit(0, 4), ways(0, 0, 1), even(0), new(1, 4), even(1)]
        calls += [inside(0, 1), inside(1, 0), commutes(0, [1, 0, 2, 3]), commutes(0, [2, 3, 0, 1]), join(1, 0), join(1, 0)]
        calls += [fix(0, 0), fix(0, 0), fix(0, 4), new(1, 2), join(0, 1), inside(0, 1)]
        found = answers(flat(calls))
        self.assertIs(type(found), list)
        self.assertEqual({type(x) for x in found}, {int})

    def test_what_is_handed_in_is_not_changed(self):
        calls = flat(make(0, 6, desk.symmetric(6)) + [order(0), has(0, [5, 4, 3, 2, 1, 0]), at(0, 100), at(0, 720)])
        calls += flat([rank(0, [1, 0, 2, 3, 5, 4]), first(0, [3, 4, 5, 0, 1, 2]), add(0, [0] * 6), new(0, 0), new(1, 6)])
        calls += flat([orbit(0, 2), orbit(0, 6), ways(0, 1, 5), inside(1, 0), join(1, 0), join(1, 1), fix(0, 3), fix(0, -1)])
        calls += flat([commutes(0, [0, 1, 2, 4, 3, 5]), commutes(0, [6] * 6), even(0), join(0, 1), new(0, 2), join(0, 1)])
        kept = list(calls)
        wanted = answers(calls)
        self.assertEqual(calls, kept)
        self.assertEqual(answers(Untouchable(kept)), wanted)

    def test_what_is_given_back_is_its_own(self):
        calls = flat(make(0, 3, [[1, 2, 0]]) + [at(0, 0), at(0, 1), first(0, [0, 1, 2])])
        found = answers(calls)
        wanted = list(found)
        found.clear()
        self.assertEqual(answers(calls), wanted)

    def test_nothing_is_kept(self):
        calls = flat([new(0, 3), order(0), add(0, [1, 2, 0]), order(0)])
        wanted = [1, 0, 3, 0, 1, 0, 1, 1, 3, 0, 3, 0]
        for _ in range(3):
            self.assertEqual(answers(calls), wanted)
            self.assertEqual(answers([1, 0, 5, 3, 0]), [1, 0, 3, 0, 1, 0])

    def test_nothing_is_kept_of_fix_and_join(self):
        calls = flat([new(0, 4), new(1, 4), add(0, [1, 2, 3, 0]), add(1, [1, 0, 2, 3]), join(0, 1), order(0), fix(0, 2)])
        calls += flat([order(0), orbit(0, 0), even(0), inside(1, 0), commutes(0, [0, 1, 3, 2]), ways(0, 0, 3)])
        wanted = [[0], [0], [1], [1], [1], number(24), [1], number(6), points([0, 1, 3]), [0], [1], [0], number(2)]
        for _ in range(3):
            self.assertEqual(desk.split(answers(calls)), wanted)
            self.assertEqual(ask(new(0, 4), new(1, 4), order(0), order(1), join(0, 1), even(0))[2:], [number(1)] * 2 + [[0], [1]])

    def test_nothing_is_printed(self):
        said = io.StringIO()
        with contextlib.redirect_stdout(said), contextlib.redirect_stderr(said):
            ask(*make(0, 5, desk.symmetric(5)), order(0), at(0, 3), new(0, 99), new(1, 5), join(1, 0), fix(0, 2), fix(0, 9))
            ask(new(0, 2), orbit(0, 0), ways(0, 0, 1), inside(0, 0), commutes(0, [1, 0]), even(0))
        self.assertEqual(said.getvalue(), "")


class BothObjects(unittest.TestCase):
    def test_side_by_side(self):
        found = ask(
            new(0, 3), new(1, 4),
            add(0, [1, 2, 0]), order(0), order(1),
            add(1, [1, 0, 2, 3]), add(1, [1, 2, 3, 0]), order(0), order(1),
            at(0, 2), at(1, 2), rank(0, [2, 0, 1]), rank(1, [3, 2, 1, 0]),
            has(0, [1, 0, 2]), has(1, [1, 0, 2, 3]), first(0, [0, 2, 1]), first(1, [0, 2, 1, 3]),
            new(0, 2), order(0), order(1), new(1, 35), order(1), new(1, 1), order(1), at(0, 0),
        )
        wanted = [
            [0], [0],
            [1], number(3), number(1),
            [1], [1], number(3), number(24),
            row([2, 0, 1]), row([0, 2, 1, 3]), number(2), number(23),
            [0], [1], row([0, 2, 1]), row([0, 1, 2, 3]),
            [0], number(1), number(24), [-2], number(24), [0], number(1), row([0, 1]),
        ]
        self.assertEqual(found, wanted)

    def test_object_1_alone(self):
        self.assertEqual(ask(new(1, 2), add(1, [1, 0]), order(1)), [[0], [1], number(2)])

    def test_the_same_row_in_both(self):
        p = [1, 2, 0]
        found = ask(new(0, 3), new(1, 3), add(0, p), add(1, p), add(0, [1, 0, 2]), order(0), order(1))
        self.assertEqual(found, [[0], [0], [1], [1], [1], number(6), number(3)])


class FullLength(unittest.TestCase):
    def run_calls(self, calls):
        handed = flat(calls)
        self.assertEqual(len(calls), 300)
        self.assertLessEqual(len(handed), 16000)
        kept = list(handed)
        begun = time.process_time()
        found = desk.split(answers(handed))
        self.assertLess(time.process_time() - begun, SECONDS)
        self.assertEqual(handed, kept)
        self.assertEqual(len(found), 300)
        self.assertEqual(desk.split(answers(handed)), found)
        return found

    def test_all_of_34_from_anew_again_and_again(self):
        calls = [call for k in range(100) for call in make(k % 2, 34, desk.symmetric(34))]
        self.assertEqual(self.run_calls(calls), [[0], [1], [1]] * 100)

    def test_rows_from_anew_again_and_again(self):
        shuffler = desk.Shuffler(21)
        calls = []
        for _ in range(75):
            calls += make(0, 34, [shuffler.row(34), shuffler.row(34)]) + [order(0)]
        for found in self.run_calls(calls)[3::4]:
            self.assertGreater(found[2], 0)

    def test_turned_pairs_from_anew_again_and_again(self):
        calls = [call for _ in range(75) for call in make(0, 34, desk.turned_pairs(17))]
        self.assertEqual(self.run_calls(calls), [[0], [1], [1], [1]] * 75)

    def test_adds_that_all_grow(self):
        grow = [cycles(34, [k, k + 1]) for k in range(33)]
        calls = [call for _ in range(8) for call in make(0, 34, grow)] + [order(0)] * 28
        self.assertEqual(self.run_calls(calls)[-1], number(math.factorial(34)))

    def test_first_of_many_rows(self):
        for makers in (desk.symmetric(34), desk.blocks(34, 17), desk.turned_pairs(17), desk.blocks(34, 2)):
            shuffler = desk.Shuffler(2)
            calls = make(0, 34, makers)
            calls += [first(0, list(range(34))[::-1])]
            calls += [first(0, shuffler.row(34)) for _ in range(300 - len(calls))]
            found = self.run_calls(calls)[1 + len(makers):]
            self.assertEqual({len(part) for part in found}, {35})
            self.assertEqual({part[0] for part in found}, {0})

    def test_at_and_rank_of_many(self):
        shuffler = desk.Shuffler(4)
        places = [shuffler.big(math.factorial(34)) for _ in range(148)]
        calls = make(0, 34, desk.symmetric(34)) + [order(0)]
        for k in places:
            calls += [at(0, k), rank(0, desk.all_at(34, k))]
        found = self.run_calls(calls)[4:]
        self.assertEqual(found[0::2], [row(desk.all_at(34, k)) for k in places])
        self.assertEqual(found[1::2], [number(k) for k in places])

    def all_of_34_in_both(self):
        return make(0, 34, desk.symmetric(34)) + make(1, 34, desk.symmetric(34))

    def test_fix_and_add_again_and_again(self):
        for makers in (desk.turned_pairs(17), desk.swapped_blocks(17), desk.symmetric(34)):
            calls = make(0, 34, makers)
            size = ask(*calls, order(0))[-1]
            k = 0
            while len(calls) + 2 + len(makers) <= 300:
                calls += [fix(0, k * 5 % 34)] + [add(0, p) for p in makers] + [order(0)]
                k += 1
            calls += [even(0)] * (300 - len(calls))
            found = self.run_calls(calls)[1 + len(makers):]
            self.assertEqual(found[1 + len(makers):k * (2 + len(makers)):2 + len(makers)], [size] * k)

    def test_fix_and_join_again_and_again(self):
        calls = self.all_of_34_in_both()
        for k in range(98):
            calls += [fix(k % 2, k * 7 % 34), inside(k % 2, 1 - k % 2), join(k % 2, 1 - k % 2)]
        found = self.run_calls(calls)
        self.assertEqual(found[6:], [[1], [1], [1]] * 98)

    def test_looks_at_many(self):
        shuffler = desk.Shuffler(14)
        calls = self.all_of_34_in_both()
        wanted = [[0], [1], [1]] * 2
        for k in range(49):
            i = shuffler.below(34)
            calls += [orbit(0, i), ways(1, i, k % 34), inside(0, 1), join(1, 0), commutes(0, shuffler.row(34)), even(1)]
            wanted += [points(range(34)), number(math.factorial(33)), [1], [0], [0], [0]]
        self.assertEqual(self.run_calls(calls), wanted)

    def test_small_calls(self):
        self.assertEqual(self.run_calls([new(0, 1)] * 300), [[0]] * 300)


if __name__ == "__main__":
    unittest.main()
