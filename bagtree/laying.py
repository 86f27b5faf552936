"""Layouts no wider than a number, and thickets that no so many points hit where there is none."""

from bagtree.errors import BadCount
from bagtree.masks import points_of, size_of
from bagtree.pockets import Pockets
from bagtree.webs import is_whole, need_web


def layout(many, ties, most):
    """Tell a layout that is at most so wide, or None; BadCount for no number from 1 to many."""
    need_most(many, ties, most)
    pockets = Pockets(many, ties)
    return lay(pockets) if pockets.width() <= most else None


def thicket(many, ties, most):
    """Tell a thicket that no so many points hit, or None; BadCount for no number from 1 to many."""
    need_most(many, ties, most)
    pockets = Pockets(many, ties)
    return grow(pockets, most) if pockets.width() > most else None


def told(many, ties, most):
    """Tell ("bags", layout) or ("thicket", pieces), whichever there is; BadCount for no number from 1 to many."""
    need_most(many, ties, most)
    pockets = Pockets(many, ties)
    return ("bags", lay(pockets)) if pockets.width() <= most else ("thicket", grow(pockets, most))


def least(many, ties):
    """Tell the least width of all layouts of the web."""
    need_web(many, ties)
    return Pockets(many, ties).width()


def need_most(many, ties, most):
    """Refuse with BadWeb what is no web, then with BadCount what is no number from 1 to many."""
    need_web(many, ties)
    if not is_whole(most) or not 1 <= most <= many:
        raise BadCount("most is no number from 1 to the number of points")


def lay(pockets):
    """Tell a layout of the whole web that is as narrow as there is."""
    bags = []
    links = []
    # The pieces of the web share no points, so all but one may hang below the first bag of that one.
    waiting = [(piece, 0) for piece in pockets.whole()]
    while waiting:
        pocket, above = waiting.pop()
        _, point = pockets.plans[pocket]
        at = len(bags)
        bags.append(pockets.bag(pocket, point))
        if at > 0:
            links.append((above, at))
        for piece in pockets.below(pocket, point):
            waiting.append((piece, at))
    return bags, links


def grow(pockets, most):
    """Tell a thicket that no `most` points hit, of a web that has no layout so narrow.

    A pocket is closed where it is given, or is laid from a point in a bag of at most `most` points and what is left
    of it is closed. Each pocket with a rim of at most `most` points is given, the lesser ones first, unless this
    would close the whole web: such a one goes into the thicket, and none around it is given or goes there.

    No `most` points hit the thicket: else the pieces that they leave of the web would be closed, and with them the
    whole web. Any two of it touch: else there were two ways to close the whole web, one with either of them, and
    these, cut where fewest points part the two, made together one way with neither.
    """
    closed = {pocket: True for pocket in pockets.plans if pockets.plans[pocket][0] <= most}
    found = []
    for pocket in pockets.rims:
        narrow = size_of(pockets.rims[pocket]) <= most
        if narrow and pocket not in closed and not holds_one(pocket, found):
            wider = close(pockets, most, closed, pocket)
            if all([piece in wider for piece in pockets.whole()]):
                found.append(pocket)
            else:
                closed = wider
    return [points_of(pocket) for pocket in found]


def close(pockets, most, closed, given):
    """Tell, as keys, the pockets that are closed once the given one is, too."""
    wider = {pocket: True for pocket in closed}
    wider[given] = True
    for pocket in pockets.rims:
        if (pocket & given) == given and pocket not in wider and pockets.is_closed(pocket, most, wider):
            wider[pocket] = True
    return wider


def holds_one(pocket, others):
    """Tell whether one of the other pockets lies inside the pocket."""
    return any([(pocket & other) == other for other in others])
