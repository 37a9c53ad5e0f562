"""The refusals of add, has, at, rank and first, and that nothing has changed behind them."""

import unittest

from tests import desk
from tests.desk import add, ask, at, cycles, first, has, make, new, number, order, rank, row

WRONG_ROWS = (
    [0, 1, 2, 2],
    [0, 0, 0, 0],
    [3, 3, 2, 1],
    [1, 2, 3, 4],
    [0, 1, 2, 4],
    [0, 1, 2, 255],
    [4, 5, 6, 7],
    [255, 255, 255, 255],
)


class WrongRows(unittest.TestCase):
    def test_are_out_of_range(self):
        for call in (add, has, rank, first):
            for p in WRONG_ROWS:
                for makers in ([], [[1, 2, 3, 0]], [[1, 2, 3, 0], [1, 0, 2, 3]]):
                    with self.subTest(call=call.__name__, row=p):
                        found = ask(*make(0, 4, makers), call(0, p))
                        self.assertEqual(found[-1], [-2])

    def test_of_34_points(self):
        none = list(range(34))
        for p in ([0] + none[:33], none[:33] + [34], none[1:] + [34], none[:33] + [0], [255] * 34):
            for call in (add, has, rank, first):
                self.assertEqual(ask(new(1, 34), call(1, p))[-1], [-2])

    def test_of_one_point(self):
        for call in (add, has, rank, first):
            self.assertEqual(ask(new(0, 1), call(0, [1]), call(0, [255])), [[0], [-2], [-2]])

    def test_change_nothing(self):
        makers = [[1, 0, 2, 3], [0, 1, 3, 2]]
        look = [order(0), at(0, 0), at(0, 1), at(0, 2), at(0, 3), at(0, 4), has(0, [1, 0, 3, 2]), first(0, [3, 1, 2, 0])]
        wanted = ask(*make(0, 4, makers), *look)[3:]
        for p in WRONG_ROWS:
            calls = [call(0, p) for call in (add, has, rank, first)]
            found = ask(*make(0, 4, makers), *calls, *look, add(0, [1, 0, 3, 2]))[3:]
            self.assertEqual(found, [[-2]] * 4 + wanted + [[0]])

    def test_are_refused_by_the_points_of_their_own_object(self):
        found = ask(new(0, 3), new(1, 4), has(0, [0, 1, 3]), has(1, [0, 1, 3, 2]), add(0, [0, 3, 1]), add(1, [0, 3, 1, 2]))
        self.assertEqual(found[2:], [[-2], [0], [-2], [1]])


class NoMember(unittest.TestCase):
    def test_rank(self):
        found = ask(*make(0, 4, [[1, 2, 3, 0]]), rank(0, [1, 0, 2, 3]), rank(0, [0, 3, 2, 1]), rank(0, [3, 0, 1, 2]))
        self.assertEqual(found[2:], [[-1], [-1], number(3)])

    def test_rank_in_a_large_group(self):
        odd = cycles(34, [0, 33])
        found = ask(*make(0, 34, desk.alternating(34)), rank(0, odd), has(0, odd), order(0), rank(0, list(range(34))))
        self.assertEqual(found[33:], [[-1], [0], ask(*make(0, 34, desk.alternating(34)), order(0))[-1], number(0)])

    def test_rank_changes_nothing(self):
        strangers = ([1, 0, 2, 3], [0, 3, 2, 1], [0, 1, 3, 2])
        calls = [rank(0, p) for p in strangers] + [has(0, p) for p in strangers] + [order(0), add(0, strangers[0])]
        found = ask(*make(0, 4, [[1, 2, 3, 0]]), *calls)
        self.assertEqual(found[2:], [[-1]] * 3 + [[0]] * 3 + [number(4), [1]])

    def test_first_takes_any_row_and_changes_nothing(self):
        found = ask(*make(0, 4, [[1, 2, 3, 0]]), first(0, [1, 0, 2, 3]), order(0), has(0, [1, 0, 2, 3]), at(0, 3))
        self.assertEqual(found[2:], [row([0, 3, 1, 2]), number(4), [0], row([3, 0, 1, 2])])

    def test_out_of_range_comes_before_no_member(self):
        self.assertEqual(ask(new(0, 3), rank(0, [1, 1, 0]), rank(0, [1, 2, 0])), [[0], [-2], [-1]])


class PastTheEnd(unittest.TestCase):
    def test_at(self):
        places = [3, 4, 5, 2 ** 64 - 1, 2 ** 64, 2 ** 64 + 3, 2 ** 127, 2 ** 128 - 1]
        found = ask(*make(0, 4, [[1, 2, 3, 0]]), *[at(0, k) for k in places])
        self.assertEqual(found[2:], [row([3, 0, 1, 2])] + [[-1]] * 7)

    def test_at_low_and_high(self):
        found = ask(new(0, 2), [5, 0, 0, 1], [5, 0, 1, 0], [5, 0, 0, 0], [5, 0, 0, 2 ** 64 - 1])
        self.assertEqual(found[1:], [[-1], [-1], row([0, 1]), [-1]])

    def test_at_changes_nothing(self):
        found = ask(*make(0, 4, [[1, 2, 3, 0]]), at(0, 4), order(0), at(0, 1))
        self.assertEqual(found[2:], [[-1], number(4), row([1, 2, 3, 0])])


if __name__ == "__main__":
    unittest.main()
