"""The members that leave one point where it is, as a group of their own."""

from pointgroupsdesk.chain import levels_of
from pointgroupsdesk.movable import MovableChain
from pointgroupsdesk.rows import none_row


def levels_leaving(levels, point):
    chain = MovableChain(levels)
    chain.move_up(point, 0)
    # Below the level of the point are the members that leave it, and the other points are in order there.
    outs = chain.outs[1:]
    outs.insert(point, {point: none_row(len(levels))})
    return levels_of(outs)
