"""The calls on two groups of permutations, one behind another."""

from pointgroupsdesk.chain import count_members, extend, is_member, new_levels
from pointgroupsdesk.least import first_after
from pointgroupsdesk.places import member_at, place_of
from pointgroupsdesk.rows import is_permutation

MOST_POINTS = 34
WORD = 18446744073709551616

OUT_OF_RANGE = -2
NOT_THERE = -1

NEW = 1
# How many whole numbers come behind the number of a call, ahead of its row if it has one.
NUMBERS_OF = {1: 2, 2: 1, 3: 1, 4: 1, 5: 3, 6: 1, 7: 1}
WITH_ROW = (2, 4, 6, 7)


def two_words(number):
    return [number % WORD, number // WORD]


def answer_new(held, numbers):
    points = numbers[1]
    if points < 1 or points > MOST_POINTS:
        return [OUT_OF_RANGE]
    held[numbers[0]] = new_levels(points)
    return [0]


def answer_add(levels, numbers, row):
    if is_member(levels, 0, row):
        return [0]
    extend(levels, row)
    return [1]


def answer_order(levels, numbers, row):
    return [0] + two_words(count_members(levels, 0))


def answer_has(levels, numbers, row):
    return [1 if is_member(levels, 0, row) else 0]


def answer_at(levels, numbers, row):
    place = numbers[1] + numbers[2] * WORD
    if place >= count_members(levels, 0):
        return [NOT_THERE]
    return [0] + member_at(levels, place)


def answer_rank(levels, numbers, row):
    if not is_member(levels, 0, row):
        return [NOT_THERE]
    return [0] + two_words(place_of(levels, row))


def answer_first(levels, numbers, row):
    return [0] + first_after(levels, row)


ANSWERS = {
    2: answer_add,
    3: answer_order,
    4: answer_has,
    5: answer_at,
    6: answer_rank,
    7: answer_first,
}


def answer(held, call, numbers, row):
    if call == NEW:
        return answer_new(held, numbers)
    levels = held[numbers[0]]
    if call in WITH_ROW and not is_permutation(row, len(levels)):
        return [OUT_OF_RANGE]
    answer_call = ANSWERS[call]
    return answer_call(levels, numbers, row)


def answers(calls):
    held = [[], []]
    found = []
    place = 0
    while place < len(calls):
        call = calls[place]
        end = place + 1 + NUMBERS_OF[call]
        numbers = calls[place + 1:end]
        row = []
        if call in WITH_ROW:
            start = end + 1
            end = start + calls[start - 1]
            row = calls[start:end]
        answered = answer(held, call, numbers, row)
        found.append(len(answered))
        found.extend(answered)
        place = end
    return found
