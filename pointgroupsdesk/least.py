"""The first in order of all p then g, g any member.

It has the least g[p[0]] there is, then the least g[p[1]] that goes with it, and so on. So a chain is wanted that is
about the points p[0], p[1], .. in this order: the group's own is copied, and in the copy points are moved up.
"""

from pointgroupsdesk.rows import inverse, none_row, then


# base[k] is the point that level k is about; outs[k] has the kept members of that level, by where they take it.
class MovableChain:
    def __init__(self, levels):
        self.base = [level.point for level in levels]
        self.outs = [level.out for level in levels]

    def move_up(self, point, k):
        while self.base[k] != point:
            self.swap(self.base.index(point) - 1)

    # Level k and the one below it change points.
    def swap(self, k):
        upper_point = self.base[k]
        lower_point = self.base[k + 1]
        high = self.outs[k]
        low = self.outs[k + 1]
        below = leaving_lower(high, low, lower_point)
        self.outs[k] = taking_lower(high, low, len(high) * len(low) // len(below))
        self.outs[k + 1] = below
        self.base[k] = lower_point
        self.base[k + 1] = upper_point


# In both of these low[y] then high[x] is a member that takes the upper point to x and the lower one to high[x][y].


# Of the members that leave the lower point where it is, one for each place of the upper point.
def leaving_lower(high, low, lower_point):
    found = {}
    for x in high:
        y = high[x].index(lower_point)
        if y in low:
            found[x] = then(low[y], high[x])
    return found


# Of all these members one for each place of the lower point; there are so many places.
def taking_lower(high, low, places):
    found = dict(low)
    for x in high:
        if len(found) < places:
            for y in low:
                if high[x][y] not in found:
                    found[high[x][y]] = then(low[y], high[x])
    return found


def first_after(levels, row):
    chain = MovableChain(levels)
    chosen = none_row(len(levels))
    for k in range(len(levels)):
        out = chain.outs[k]
        if row[k] in out:
            # The row then any member can come to the same as the row can. This one spares moving a point.
            row = then(row, inverse(out[row[k]]))
        else:
            chain.move_up(row[k], k)
            out = chain.outs[k]
        least = min([chosen[y] for y in out])
        chosen = then(out[chosen.index(least)], chosen)
    return then(row, chosen)
