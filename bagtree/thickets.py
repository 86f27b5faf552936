"""Thickets: pieces of a web, each two of which touch."""

from bagtree.errors import BadThicket
from bagtree.masks import around, mask_of, size_of
from bagtree.webs import is_below, is_one, is_rising, need_web, neighbours


def touch(many, ties, one, other):
    """Tell whether two lists of points share one, or a tie leads from the one to the other."""
    need_web(many, ties)
    near = neighbours(many, ties)
    return meets(around(near, points_in(many, one)), points_in(many, other))


def is_thicket(many, ties, thing):
    """Tell of any thing whether it is a thicket of the web."""
    need_web(many, ties)
    if type(thing) != list or len(thing) == 0:
        return False
    near = neighbours(many, ties)
    if not all([is_rising(piece, many) and is_one(near, piece) for piece in thing]):
        return False
    return all_touch(near, masks_of(thing))


def least_hit(many, ties, thicket):
    """Tell the least number of points that hit the thicket; BadThicket for what is none."""
    if not is_thicket(many, ties, thicket):
        raise BadThicket("this is no thicket of the web")
    masks = masks_of(thicket)
    return min([size_of(points) for points in range(1 << many) if hits(points, masks)])


def points_in(many, numbers):
    """Tell the mask of the numbers that are points; the others mean nothing."""
    return mask_of([number for number in numbers if is_below(number, many)])


def masks_of(pieces):
    """List the masks of the pieces, alike ones once."""
    return sorted({mask_of(piece) for piece in pieces})


def all_touch(near, masks):
    """Tell whether each two of the pieces touch."""
    for at, mask in enumerate(masks):
        reach = around(near, mask)
        if not all([meets(reach, other) for other in masks[at + 1:]]):
            return False
    return True


def hits(points, masks):
    """Tell whether each of the pieces has one of the points."""
    return all([meets(points, mask) for mask in masks])


def meets(one, other):
    """Tell whether two masks share a point."""
    return (one & other) != 0
