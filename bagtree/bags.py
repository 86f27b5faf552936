"""Layouts: bags of points of a web, linked into a tree."""

from bagtree.errors import BadLayout
from bagtree.webs import is_one, is_pair, is_rising, need_web, neighbours


def is_layout(many, ties, thing):
    """Tell of any thing whether it is a layout of the web."""
    need_web(many, ties)
    if not is_formed(many, thing):
        return False
    bags, links = thing
    return holds_ties(bags, ties) and is_joined(many, bags, links)


def wide(many, ties, layout):
    """Tell how many points the greatest bag of the layout has; BadLayout for what is none."""
    if not is_layout(many, ties, layout):
        raise BadLayout("this is no layout of the web")
    bags, _ = layout
    return max([len(bag) for bag in bags])


def is_formed(many, thing):
    """Tell whether thing is a tuple of bags and of as many links as a tree of them has."""
    if type(thing) != tuple or len(thing) != 2:
        return False
    bags, links = thing
    if type(bags) != list or type(links) != list:
        return False
    # A thing without bags fails here too: no list is one shorter than an empty one.
    if len(links) != len(bags) - 1:
        return False
    good_bags = all([is_rising(bag, many) for bag in bags])
    return good_bags and all([is_pair(link, len(bags)) for link in links])


def holds_ties(bags, ties):
    """Tell whether the two points of each tie stand in one bag together."""
    for low, high in ties:
        if not any([low in bag and high in bag for bag in bags]):
            return False
    return True


def is_joined(many, bags, links):
    """Tell whether the links bring together all bags, and for each point those that have it."""
    near = neighbours(len(bags), links)
    if not is_one(near, list(range(len(bags)))):
        return False
    for point in range(many):
        if not is_one(near, [at for at, bag in enumerate(bags) if point in bag]):
            return False
    return True
