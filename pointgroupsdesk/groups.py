"""The calls on two groups of permutations, one behind another."""

from pointgroupsdesk.chain import count_members, extend, is_member, makers_of, new_levels, orbit_of
from pointgroupsdesk.fixing import levels_leaving
from pointgroupsdesk.least import first_after
from pointgroupsdesk.pairs import is_inside, joined
from pointgroupsdesk.places import member_at, place_of
from pointgroupsdesk.rows import is_even, is_permutation, then

MOST_POINTS = 34
WORD = 18446744073709551616

OUT_OF_RANGE = -2
NOT_THERE = -1
NOT_AS_MANY_POINTS = -1

# How many whole numbers come behind the number of a call, ahead of its row if it has one.
NUMBERS_OF = {1: 2, 2: 1, 3: 1, 4: 1, 5: 3, 6: 1, 7: 1, 8: 2, 9: 3, 10: 2, 11: 2, 12: 2, 13: 1, 14: 1}
WITH_ROW = (2, 4, 6, 7, 13)
# All whole numbers of these but the first are points.
WITH_POINTS = (8, 9, 10)


def two_words(number):
    return [number % WORD, number // WORD]


def are_points(numbers, points):
    return all([x >= 0 and x < points for x in numbers])


def yes_or_no(truth):
    return [1 if truth else 0]


# The answers of calls that hold another group from then on, or are about both.


def answer_new(held, numbers):
    points = numbers[1]
    if points < 1 or points > MOST_POINTS:
        return [OUT_OF_RANGE]
    held[numbers[0]] = new_levels(points)
    return [0]


def answer_fix(held, numbers):
    levels = held[numbers[0]]
    point = numbers[1]
    if orbit_of(levels, point) == [point]:
        return [0]
    held[numbers[0]] = levels_leaving(levels, point)
    return [1]


def answer_inside(held, numbers):
    levels = held[numbers[0]]
    others = held[numbers[1]]
    return yes_or_no(len(levels) == len(others) and is_inside(levels, others))


def answer_join(held, numbers):
    levels = held[numbers[0]]
    others = held[numbers[1]]
    if len(levels) != len(others):
        return [NOT_AS_MANY_POINTS]
    if is_inside(others, levels):
        return [0]
    held[numbers[0]] = joined(levels, others)
    return [1]


# The answers of calls on the one group that an object holds.


def answer_add(levels, numbers, row):
    if is_member(levels, 0, row):
        return [0]
    extend(levels, row)
    return [1]


def answer_order(levels, numbers, row):
    return [0] + two_words(count_members(levels, 0))


def answer_has(levels, numbers, row):
    return yes_or_no(is_member(levels, 0, row))


def answer_at(levels, numbers, row):
    place = numbers[1] + numbers[2] * WORD
    if place >= count_members(levels, 0):
        return [NOT_THERE]
    return [0] + member_at(levels, place)


def answer_rank(levels, numbers, row):
    if not is_member(levels, 0, row):
        return [NOT_THERE]
    return [0] + two_words(place_of(levels, row))


def answer_first(levels, numbers, row):
    return [0] + first_after(levels, row)


def answer_orbit(levels, numbers, row):
    orbit = orbit_of(levels, numbers[1])
    return [len(orbit)] + orbit


# Members take a point to each point of its orbit in equally many ways.
def answer_ways(levels, numbers, row):
    orbit = orbit_of(levels, numbers[1])
    ways = count_members(levels, 0) // len(orbit) if numbers[2] in orbit else 0
    return [0] + two_words(ways)


def answer_commutes(levels, numbers, row):
    return yes_or_no(all([then(row, maker) == then(maker, row) for maker in makers_of(levels)]))


def answer_even(levels, numbers, row):
    return yes_or_no(all([is_even(maker) for maker in makers_of(levels)]))


ANSWERS_OF_HELD = {
    1: answer_new,
    10: answer_fix,
    11: answer_inside,
    12: answer_join,
}
ANSWERS_OF_ONE = {
    2: answer_add,
    3: answer_order,
    4: answer_has,
    5: answer_at,
    6: answer_rank,
    7: answer_first,
    8: answer_orbit,
    9: answer_ways,
    13: answer_commutes,
    14: answer_even,
}


def answer(held, call, numbers, row):
    levels = held[numbers[0]]
    if call in WITH_ROW and not is_permutation(row, len(levels)):
        return [OUT_OF_RANGE]
    if call in WITH_POINTS and not are_points(numbers[1:], len(levels)):
        return [OUT_OF_RANGE]
    if call in ANSWERS_OF_HELD:
        answer_held = ANSWERS_OF_HELD[call]
        return answer_held(held, numbers)
    answer_one = ANSWERS_OF_ONE[call]
    return answer_one(levels, numbers, row)


def answers(calls):
    held = [[], []]
    found = []
    place = 0
    while place < len(calls):
        call = calls[place]
        end = place + 1 + NUMBERS_OF[call]
        numbers = calls[place + 1:end]
        row = []
        if call in WITH_ROW:
            start = end + 1
            end = start + calls[start - 1]
            row = calls[start:end]
        answered = answer(held, call, numbers, row)
        found.append(len(answered))
        found.extend(answered)
        place = end
    return found
