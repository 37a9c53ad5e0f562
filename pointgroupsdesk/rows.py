"""Permutations as rows: row[i] is where point i goes. A row that has been made is never changed."""


def none_row(points):
    return list(range(points))


def is_permutation(row, points):
    return sorted(row) == list(range(points))


def then(p, q):
    return [q[x] for x in p]


def inverse(row):
    back = [0] * len(row)
    for i, x in enumerate(row):
        back[x] = i
    return back


# A cycle of k points is k - 1 swaps, so a permutation is even where points less cycles are.
def is_even(row):
    cycles = 0
    seen = [False] * len(row)
    for start in range(len(row)):
        if not seen[start]:
            cycles += 1
            x = start
            while not seen[x]:
                seen[x] = True
                x = row[x]
    return (len(row) - cycles) % 2 == 0
