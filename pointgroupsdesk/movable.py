"""A chain of levels in which points can be moved up.

The levels of a group are about its points from the lowest on. Some questions want the points in another order: for
these the levels' kept members are taken over, and levels that stand side by side change points.
"""

from pointgroupsdesk.rows import then


# base[k] is the point that level k is about; outs[k] has the kept members of that level, by where they take it.
class MovableChain:
    def __init__(self, levels):
        self.base = [level.point for level in levels]
        self.outs = [level.out for level in levels]

    # The points from level k on that are ahead of this one come behind it and keep their order.
    def move_up(self, point, k):
        while self.base[k] != point:
            self.swap(self.base.index(point) - 1)

    # Level k and the one below it change points.
    def swap(self, k):
        upper_point = self.base[k]
        lower_point = self.base[k + 1]
        high = self.outs[k]
        low = self.outs[k + 1]
        below = leaving_lower(high, low, lower_point)
        self.outs[k] = taking_lower(high, low, len(high) * len(low) // len(below))
        self.outs[k + 1] = below
        self.base[k] = lower_point
        self.base[k + 1] = upper_point


# In both of these low[y] then high[x] is a member that takes the upper point to x and the lower one to high[x][y].


# Of the members that leave the lower point where it is, one for each place of the upper point.
def leaving_lower(high, low, lower_point):
    found = {}
    for x in high:
        y = high[x].index(lower_point)
        if y in low:
            found[x] = then(low[y], high[x])
    return found


# Of all these members one for each place of the lower point; there are so many places.
def taking_lower(high, low, places):
    found = dict(low)
    for x in high:
        if len(found) < places:
            for y in low:
                if high[x][y] not in found:
                    found[high[x][y]] = then(low[y], high[x])
    return found
