"""A group as a chain of levels, one for each point.

Level i is about the members that leave the points 0 to i - 1 where they are. It keeps, for each point x to which they
take point i, one of them that does. Every member of the group is in one way alone a product of kept members, one of
each level, that of the deepest level first: so the group can be counted and walked in order without being listed.
"""

from pointgroupsdesk.rows import inverse, is_even, none_row, then


# out[x] is the kept member that takes the level's point to x, back[x] its inverse. makers make the group of the level;
# done[k] tells on how many of the reached points maker k has been tried. kin[x] is the same for two points where the
# makers take one to the other.
class Level:
    def __init__(self, point, none):
        self.point = point
        self.reached = [point]
        self.out = {point: none}
        self.back = {point: none}
        self.makers = []
        self.done = []
        self.kin = list(none)
        self.all_even = True

    # Turns a new level into that of a known group: kept has a member for each point that is reached, and below is the
    # level that comes next, which is full already.
    #
    # What makes all members below, and takes the level's point to every point that is reached, makes the whole group.
    # So only those kept members become makers that bring the point together with new kin.
    def fill(self, kept, below):
        self.makers = list(below.makers)
        self.kin = list(below.kin)
        self.all_even = below.all_even
        for x in kept:
            if x != self.point:
                self.keep(kept[x])
            if self.kin[x] != self.kin[self.point]:
                self.note_maker(kept[x])
        self.skip_untried()

    def take_maker(self, row):
        self.note_maker(row)
        self.reach()

    def note_maker(self, row):
        self.makers.append(row)
        self.done.append(0)
        self.all_even = self.all_even and is_even(row)
        self.join_kin(row)

    def join_kin(self, row):
        for i, x in enumerate(row):
            one = self.kin[i]
            other = self.kin[x]
            if one != other:
                self.kin = [one if k == other else k for k in self.kin]

    def reach(self):
        k = 0
        while k < len(self.reached):
            x = self.reached[k]
            for maker in self.makers:
                if maker[x] not in self.out:
                    self.keep(then(self.out[x], maker))
            k += 1

    def keep(self, row):
        x = row[self.point]
        self.reached.append(x)
        self.out[x] = row
        self.back[x] = inverse(row)

    # A kept member then a maker, a pair of them that has not been tried yet; None where all have been.
    def untried(self):
        k = 0
        while k < len(self.makers) and self.done[k] == len(self.reached):
            k += 1
        if k == len(self.makers):
            return None
        x = self.reached[self.done[k]]
        self.done[k] += 1
        return then(self.out[x], self.makers[k])

    def skip_untried(self):
        self.done = [len(self.reached)] * len(self.makers)

    # No more members than this can be made: points stay among their kin, and even makers make even members alone.
    def most_members(self):
        most = 1
        met = {}
        for k in self.kin:
            met[k] = met.get(k, 0) + 1
            most *= met[k]
        return most // 2 if self.all_even and most > 1 else most


def new_levels(points):
    none = none_row(points)
    return [Level(i, none) for i in range(points)]


# The levels of a group of which the kept members of each level are known, by where they take the level's point.
def levels_of(outs):
    levels = new_levels(len(outs))
    # The last level is full from the beginning: what leaves all points but one where they are is none.
    for i in range(len(outs) - 2, -1, -1):
        levels[i].fill(outs[i], levels[i + 1])
    return levels


# How many members leave the points ahead of the level start where they are.
def count_members(levels, start):
    count = 1
    for level in levels[start:]:
        count *= len(level.reached)
    return count


# Whether the row, which leaves the points ahead of the level start where they are, is a member.
def is_member(levels, start, row):
    for level in levels[start:]:
        x = row[level.point]
        if x != level.point:
            if x not in level.back:
                return False
            row = then(row, level.back[x])
    return True


# Rows that make the whole group.
def makers_of(levels):
    return list(levels[0].makers)


# The points to which members take this one, the lowest first.
def orbit_of(levels, point):
    kin = levels[0].kin
    return [x for x in range(len(levels)) if kin[x] == kin[point]]


# Makes the levels those of the group that they and the row, which is no member, make.
#
# By Schreier's lemma a level fits the one below it once each kept member then each maker, brought back to the level's
# point, is a member there. What is not becomes a maker there, and that level is made to fit first: all levels deeper
# than i fit one another whenever the loop comes round.
def extend(levels, row):
    levels[0].take_maker(row)
    i = 0
    while i >= 0:
        rest = first_stranger(levels, i)
        if rest is None:
            i -= 1
        else:
            i += 1
            levels[i].take_maker(rest)


# Of what level i asks of the level below it the first that is no member there, or None.
def first_stranger(levels, i):
    level = levels[i]
    # Where there are as many members as there can be, nothing is missing below. This spares large groups most of
    # their trials.
    if count_members(levels, i) == level.most_members():
        level.skip_untried()
    product = level.untried()
    while product is not None:
        rest = then(product, level.back[product[level.point]])
        if not is_member(levels, i + 1, rest):
            return rest
        product = level.untried()
    return None
