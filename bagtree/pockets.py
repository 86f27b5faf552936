"""Pockets of a web: sets of points, as masks, each of one piece by the ties among its points.

The rim of a pocket is the points outside it that are tied with one of its points. A pocket is laid from one of
its points: that point and the rim make a bag, and each piece that is left of the pocket, a lesser pocket, is laid
by itself below that bag, which has the whole rim of this piece.
"""

from bagtree.masks import around, mask_of, points_of, size_of
from bagtree.webs import neighbours, parts


class Pockets:
    """The pockets of a web, and from which of its points each is laid in the narrowest way.

    splits: for each mask the pieces of its points, as masks.
    rims: for each pocket its rim; the keys count up.
    plans: for each pocket the least width it can be laid in, and the point to lay it from.
    """

    def __init__(self, many, ties):
        near = neighbours(many, ties)
        masks = range(1 << many)
        self.splits = [pieces_in(near, mask) for mask in masks]
        self.rims = {mask: around(near, mask) - mask for mask in masks if len(self.splits[mask]) == 1}
        self.plans = {}
        for pocket in self.rims:
            self.plans[pocket] = self.plan(pocket)

    def whole(self):
        """List the pieces of the whole web."""
        return self.splits[-1]

    def below(self, pocket, point):
        """List the pieces that are left of the pocket without the point."""
        return self.splits[pocket - (1 << point)]

    def bag(self, pocket, point):
        """List, rising, the points of the bag that the pocket is laid from."""
        return points_of(self.rims[pocket] | (1 << point))

    def plan(self, pocket):
        """Tell the least width the pocket can be laid in, and the point to lay it from, once lesser ones are known."""
        size = size_of(self.rims[pocket]) + 1
        found = []
        for point in points_of(pocket):
            widths = [self.plans[piece][0] for piece in self.below(pocket, point)]
            found.append((max([size] + widths), point))
        return min(found)

    def width(self):
        """Tell the least width in which the whole web is laid."""
        return max([self.plans[piece][0] for piece in self.whole()])

    def is_closed(self, pocket, most, closed):
        """Tell whether the pocket is laid from a point in a bag of at most `most`, with all that is left closed."""
        if size_of(self.rims[pocket]) >= most:
            return False
        for point in points_of(pocket):
            if all([piece in closed for piece in self.below(pocket, point)]):
                return True
        return False


def pieces_in(near, mask):
    """List the pieces of the points of the mask, as masks."""
    return [mask_of(part) for part in parts(near, points_of(mask))]
