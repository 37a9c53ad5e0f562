"""The first in order of all p then g, g any member.

It has the least g[p[0]] there is, then the least g[p[1]] that goes with it, and so on. So a chain is wanted that is
about the points p[0], p[1], .. in this order.
"""

from pointgroupsdesk.movable import MovableChain
from pointgroupsdesk.rows import inverse, none_row, then


def first_after(levels, row):
    chain = MovableChain(levels)
    chosen = none_row(len(levels))
    for k in range(len(levels)):
        out = chain.outs[k]
        if row[k] in out:
            # The row then any member can come to the same as the row can. This one spares moving a point.
            row = then(row, inverse(out[row[k]]))
        else:
            chain.move_up(row[k], k)
            out = chain.outs[k]
        least = min([chosen[y] for y in out])
        chosen = then(out[chosen.index(least)], chosen)
    return then(row, chosen)
