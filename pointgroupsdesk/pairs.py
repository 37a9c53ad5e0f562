"""Two groups on as many points: whether one is inside the other, and what both make."""

from pointgroupsdesk.chain import count_members, extend, is_member, levels_of, makers_of


def is_inside(levels, others):
    return all([is_member(others, 0, maker) for maker in makers_of(levels)])


# The levels of what both groups make; those that are handed in stay as they are.
def joined(levels, others):
    # The larger group is nearer to what both make, so less is left to be found from there.
    if count_members(levels, 0) < count_members(others, 0):
        return joined(others, levels)
    found = levels_of([level.out for level in levels])
    for maker in makers_of(others):
        if not is_member(found, 0, maker):
            extend(found, maker)
    return found
