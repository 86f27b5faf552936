"""Colourings of a web, counted along a layout of it.

A table is a dict from the colours of some points, a tuple in the order of these points, to the number of
colourings of all points met so far that give them these colours.
"""

from bagtree.bags import is_layout
from bagtree.errors import BadCount, BadLayout
from bagtree.webs import is_whole, neighbours

MOST_COLOURS = 4


def colourings(many, ties, layout, colours):
    """Count the colourings with so many colours; BadLayout, then BadCount for no number from 0 to 4."""
    if not is_layout(many, ties, layout):
        raise BadLayout("this is no layout of the web")
    if not is_whole(colours) or not 0 <= colours <= MOST_COLOURS:
        raise BadCount("colours is no number from 0 to 4")
    bags, links = layout
    near = neighbours(many, ties)
    # An empty bag above the first one makes that one a bag like the others.
    top = len(bags)
    tall = bags + [[]]
    below = [[] for bag in tall]
    for at, above in reversed(downward(neighbours(top, links), top)):
        shared = [point for point in tall[at] if point in tall[above]]
        below[above].append((shared, count_bag(near, tall[at], below[at], shared, colours)))
    _, table = below[top][0]
    return table.get((), 0)


def downward(near, top):
    """List each bag with the one above it, and behind that one; top is above the first bag."""
    order = []
    waiting = [(0, top)]
    while waiting:
        at, above = waiting.pop()
        order.append((at, above))
        for other in near[at]:
            if other != above:
                waiting.append((other, at))
    return order


def count_bag(near, bag, below, shared, colours):
    """Tell the table of the shared points over the bag's points and those below, each told with its table."""
    needed = {point: True for point in shared}
    for points, _ in below:
        for point in points:
            needed[point] = True
    met = []
    table = {(): 1}
    for at, point in enumerate(bag):
        table = with_point(table, met, near[point], colours)
        met = met + [point]
        # A point that nothing asks for any more is left out at once, which keeps the table small.
        later = bag[at + 1:]
        kept = [old for old in met if old in needed or any([other in near[old] for other in later])]
        table = only(table, met, kept)
        met = kept
    for points, lower in below:
        table = times(table, met, lower, points)
    return only(table, met, shared)


def with_point(table, met, tied, colours):
    """Tell the table of the points met and one more, which has no colour of those it is tied with."""
    places = [at for at, point in enumerate(met) if point in tied]
    wider = {}
    for colouring, count in table.items():
        taken = [colouring[at] for at in places]
        for colour in range(colours):
            if colour not in taken:
                wider[colouring + (colour,)] = count
    return wider


def only(table, met, kept):
    """Tell the table of the points kept, some of those met, in the same order."""
    if kept == met:
        return table
    places = [met.index(point) for point in kept]
    less = {}
    for colouring, count in table.items():
        key = tuple([colouring[at] for at in places])
        less[key] = less.get(key, 0) + count
    return less


def times(table, met, lower, points):
    """Tell the table of the points met, each count times that of the lower table, of some of these points."""
    places = [met.index(point) for point in points]
    more = {}
    for colouring, count in table.items():
        more[colouring] = count * lower.get(tuple([colouring[at] for at in places]), 0)
    return more
