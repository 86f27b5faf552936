"""What several tests hand in."""

from itertools import combinations


class Touchy:
    """A thing that may not even be asked anything."""

    def _refuse(self, *rest):
        raise RuntimeError("this thing was asked something")

    __eq__ = __ne__ = __lt__ = __le__ = __gt__ = __ge__ = _refuse
    __hash__ = __bool__ = __len__ = __iter__ = __contains__ = __getitem__ = _refuse
    __int__ = __index__ = __add__ = __radd__ = __sub__ = __rsub__ = _refuse


def holding_itself():
    held = []
    held.append(held)
    return held


def things():
    """Things of many kinds, none of which is a number, a list or a tuple of two."""
    return [
        None, True, False, "", "a text", "01", b"", b"\x00\x01", 1.0, 0.5, float("nan"), 1j,
        (), (0,), {}, {0: 1}, set(), {0, 1}, frozenset(), range(2), iter([]), len, int, list,
        object(), Touchy(), lambda: 0,
    ]


def bad_manys():
    """What is no number of points of a web."""
    return things() + [0, -1, 11, 12, -10 ** 30, 10 ** 30, [], [3], (1, 2), holding_itself()]


def bad_ties(many):
    """What is no tie of a web of so many points."""
    return things() + [
        [0, 1], [], (0, 1, 2), ((0, 1),), ((0, 1), (0, 2)),
        (0, many), (many, many + 1), (-1, 0), (-2, -1), (0, 10 ** 30),
        (0, 0), (1, 1), (1, 0),
        (False, 1), (0, True), (False, True), (0.0, 1), (0, 1.0), (None, 1), (0, None),
        ("0", "1"), ("0", 1), (0, "1"), ((0,), 1), (0, [1]), ([0], 1), (0, {}), ({}, 1),
        (Touchy(), 1), (0, Touchy()), (Touchy(), Touchy()), holding_itself(),
    ]


def no_webs():
    """Pairs of many and ties that are no webs."""
    found = [(many, ties) for many in bad_manys() for ties in ([], [(0, 1)], None)]
    found += [(3, ties) for ties in things()]
    found += [(3, 3), (3, ((0, 1),)), (3, ((0, 1), (1, 2))), (3, {(0, 1): True}), (3, {(0, 1)}), (3, holding_itself())]
    for tie in bad_ties(3):
        found += [(3, [tie]), (3, [tie, (0, 1)]), (3, [(0, 1), (1, 2), tie]), (3, [(1, 2), tie, (0, 1)])]
    found += [
        (3, [(0, 1), (0, 1)]),
        (3, [(0, 1), (1, 2), (0, 1)]),
        (3, [(0, 2), (0, 1), (1, 2), (1, 2)]),
        (3, [(0, 1), (1, 0)]),
        (1, [(0, 1)]), (2, [(0, 2)]), (10, [(9, 10)]),
    ]
    return found


def all_ties(many):
    """The ties of the web of so many points in which any two are tied."""
    return list(combinations(range(many), 2))


def webs(most):
    """Every web of at most so many points, its ties in rising order."""
    for many in range(1, most + 1):
        pairs = all_ties(many)
        for at in range(2 ** len(pairs)):
            yield many, [pair for k, pair in enumerate(pairs) if at >> k & 1]


def orders(ties):
    """The same ties in some other orders."""
    return [list(ties), list(ties)[::-1], list(ties)[1:] + list(ties)[:1], list(ties)[1::2] + list(ties)[::2]]
