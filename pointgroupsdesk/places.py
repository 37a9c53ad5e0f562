"""Members by their place in order.

A member is a member of the next level then the kept members chosen so far, whose product is `chosen`: so its i-th
number is chosen[y], with y one of the points that level i reaches, and each of these comes as often as any other.
"""

from pointgroupsdesk.chain import count_members
from pointgroupsdesk.rows import none_row, then


# The member that as many come before as place says; there are more members than that.
def member_at(levels, place):
    chosen = none_row(len(levels))
    each = count_members(levels, 0)
    for level in levels:
        each //= len(level.reached)
        numbers = sorted([chosen[y] for y in level.reached])
        y = chosen.index(numbers[place // each])
        place %= each
        chosen = then(level.out[y], chosen)
    return chosen


# How many members come before the row, which is a member.
def place_of(levels, row):
    chosen = none_row(len(levels))
    each = count_members(levels, 0)
    place = 0
    for level in levels:
        each //= len(level.reached)
        number = row[level.point]
        place += each * len([y for y in level.reached if chosen[y] < number])
        chosen = then(level.out[chosen.index(number)], chosen)
    return place
