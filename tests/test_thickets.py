"""Points 5 and 6, and point 1 as to thickets."""

import inspect
import unittest
from itertools import chain, combinations, permutations, product

from bagtree import thickets as module
from bagtree.errors import BadThicket, BadWeb
from bagtree.thickets import is_thicket, least_hit, touch
from tests.asks import refuses, stays
from tests.samples import Touchy, all_ties, holding_itself, no_webs, orders, things, webs

PATH = (4, [(0, 1), (1, 2), (2, 3)])
RING = (5, [(0, 1), (1, 2), (2, 3), (3, 4), (0, 4)])
FULL = (4, all_ties(4))
GRID = (9, [(at, at + 1) for at in range(9) if at % 3 < 2] + [(at, at + 3) for at in range(6)])
CROSSES = [
    sorted({3 * row + k for k in range(3)} | {column + 3 * k for k in range(3)}) for row in range(3) for column in range(3)
]

# With the least number of points that hit each.
GOOD = [
    # one piece
    (1, [], [[0]], 1),
    (3, [], [[1]], 1),
    (*PATH, [[0, 1, 2, 3]], 1),
    (*PATH, [[1, 2]], 1),
    (10, [], [[9]], 1),
    (10, all_ties(10), [list(range(10))], 1),
    (10, [(at, at + 1) for at in range(9)], [list(range(10))], 1),
    # several pieces
    (*FULL, [[0], [1], [2], [3]], 4),
    (10, all_ties(10), [[point] for point in range(10)], 10),
    (*PATH, [[0], [0, 1], [0, 1, 2], [0, 1, 2, 3]], 1),
    (*RING, [[0], [1], [2, 3, 4]], 3),
    (*RING, [[0, 1], [1, 2], [2, 3], [3, 4], [0, 4]][:3], 2),
    (*RING, [[0, 1, 2], [1, 2, 3], [2, 3, 4], [0, 3, 4], [0, 1, 4]], 2),
    (*GRID, CROSSES, 3),
    # alike ones
    (1, [], [[0], [0]], 1),
    (*FULL, [[0], [1], [0], [1], [1]], 2),
    (*RING, [[2, 3, 4], [0], [2, 3, 4], [1], [1]], 3),
    # pieces in any order
    (*FULL, [[3], [1], [0], [2]], 4),
    (*RING, [[2, 3, 4], [1], [0]], 3),
    (*PATH, [[0, 1, 2, 3], [0], [0, 1]], 1),
    # pieces that touch by a shared point alone
    (*PATH, [[0, 1], [1, 2]], 1),
    (*PATH, [[0, 1, 2], [2, 3]], 1),
    (3, [(0, 1), (1, 2)], [[1], [0, 1], [1, 2]], 1),
    # pieces that touch by a tie alone
    (2, [(0, 1)], [[0], [1]], 2),
    (2, [(0, 1)], [[1], [0]], 2),
    (*PATH, [[0, 1], [2, 3]], 2),
    (*PATH, [[2, 3], [0, 1]], 2),
    (6, [(0, 1), (1, 5), (2, 5), (2, 4)], [[2, 4, 5], [0, 1]], 2),
]

# Each of these takes the place of a piece, beside [2] and [0, 1] of PATH.
NOT_A_PIECE = [
    [], [1, 0], [2, 1], [2, 1, 0], [1, 1], [0, 1, 1], [1, 2, 2], [1, 2, 1],
    [-1], [-1, 1], [-2, -1], [4], [1, 4], [1, 2, 4], [1, 2, 10 ** 30], [-10 ** 30, 1],
    [True], [False, True], [0, True], [True, 2], [False, 1], [1.0], [1, 2.0], ["1"], [1, "2"], [None], [1, None],
    [(1, 2)], [[1]], [1, [2]], [1, []], [Touchy()], [1, Touchy()], [Touchy(), 1], [{}], [set()],
    (1,), (1, 2), {1}, {1: 1}, range(1, 2), range(1, 3), 1, 0, "1", b"\x01", "12", frozenset([1]), iter([1]),
    holding_itself(),
    # no one piece by the ties among its points
    [0, 2], [1, 3], [0, 3], [0, 1, 3], [0, 2, 3],
]

BAD = [
    # no piece at all
    (1, [], []),
    (*PATH, []),
    # pieces each of which is wrong
    (1, [], [[]]),
    (1, [], [[], [0]]),
    (1, [], [[0], []]),
    (1, [], [[False]]),
    (1, [], [[0, 0]]),
    (1, [], [[1]]),
    (1, [], [[-1]]),
    (2, [], [[0, 1]]),
    (2, [(0, 1)], [[1, 0]]),
    (3, [(0, 1)], [[0, 1, 2]]),
    (3, [(0, 2), (1, 2)], [[0, 1]]),
    (10, all_ties(10), [[9, 10]]),
    (10, [tie for tie in all_ties(10) if tie[1] < 9], [list(range(10))]),
    # two pieces that don't touch
    (2, [], [[0], [1]]),
    (*PATH, [[0], [2]]),
    (*PATH, [[2], [0]]),
    (*PATH, [[0], [1], [2]]),
    (*PATH, [[0], [1, 2], [3]]),
    (*PATH, [[1, 2], [0], [3]]),
    (*PATH, [[0, 1, 2, 3], [0, 1], [3]]),
    (*RING, [[0, 1], [1, 2], [2, 3], [3, 4], [1]]),
    (4, [(0, 1), (2, 3)], [[0, 1], [2, 3]]),
    (4, [(0, 1), (2, 3)], [[0], [1], [2]]),
    (*GRID, CROSSES + [[0], [8]]),
]


def expected_touch(ties, one, other):
    return any(low == high or (low, high) in ties or (high, low) in ties for low in one for high in other)


def is_one_piece(ties, piece):
    """Whether a list of points, told rising, is one piece: grown from its first point."""
    grown = set(piece[:1])
    for _ in piece:
        grown |= {point for point in piece if expected_touch(ties, grown, [point])}
    return len(piece) > 0 and grown == set(piece)


def expected_thicket(ties, thing):
    """Whether a list of rising lists of points is a thicket."""
    return len(thing) > 0 and all(is_one_piece(ties, piece) for piece in thing) and all(
        expected_touch(ties, one, other) for one, other in combinations(thing, 2)
    )


def expected_hit(many, thing):
    """The least number of points that hit a thicket, by trying all sets of points."""
    return min(
        size for size in range(many + 1) for points in combinations(range(many), size)
        if all(set(points) & set(piece) for piece in thing)
    )


def some_pieces(many):
    """All rising lists of points, the empty one too."""
    return [list(piece) for size in range(many + 1) for piece in combinations(range(many), size)]


class TestInterface(unittest.TestCase):
    def test_names_arguments_and_place(self):
        for name, arguments in (
            ("touch", ["many", "ties", "one", "other"]),
            ("is_thicket", ["many", "ties", "thing"]),
            ("least_hit", ["many", "ties", "thicket"]),
        ):
            with self.subTest(name=name):
                function = getattr(module, name)
                self.assertEqual(list(inspect.signature(function).parameters), arguments)
                self.assertEqual(function.__module__, "bagtree.thickets")

    def test_arguments_by_name(self):
        self.assertIs(touch(many=2, ties=[(0, 1)], one=[0], other=[1]), True)
        self.assertIs(is_thicket(many=2, ties=[(0, 1)], thing=[[0], [1]]), True)
        self.assertEqual(least_hit(many=2, ties=[(0, 1)], thicket=[[0], [1]]), 2)


class TestBadWebAheadOfAllElse(unittest.TestCase):
    def test_touch(self):
        for many, ties in no_webs():
            for one, other in (([0], [1]), ([], []), (None, 7), (Touchy(), [0]), ([99], [-1])):
                with self.subTest(many=many, ties=ties, one=one, other=other):
                    refuses(self, BadWeb, touch, many, ties, one, other)

    def test_is_thicket_and_least_hit(self):
        for many, ties in no_webs():
            for thing in ([[0]], [[0, 1, 2]], [], [[]], None, Touchy()):
                with self.subTest(many=many, ties=ties, thing=thing):
                    refuses(self, BadWeb, is_thicket, many, ties, thing)
                    refuses(self, BadWeb, least_hit, many, ties, thing)


class TestTouch(unittest.TestCase):
    def both_ways(self, want, many, ties, one, other):
        for told in orders(ties):
            with self.subTest(many=many, ties=told, one=one, other=other):
                self.assertIs(stays(self, touch, many, told, one, other), want)
                self.assertIs(stays(self, touch, many, told, other, one), want)

    def test_a_shared_point(self):
        self.both_ways(True, 1, [], [0], [0])
        self.both_ways(True, 4, [], [0, 2], [2, 3])
        self.both_ways(True, 10, [], [9], list(range(10)))
        self.both_ways(True, *PATH, [0], [0])

    def test_a_tie_from_the_one_to_the_other(self):
        self.both_ways(True, 2, [(0, 1)], [0], [1])
        self.both_ways(True, *PATH, [0, 1], [2, 3])
        self.both_ways(True, *PATH, [0, 2], [3])
        self.both_ways(True, 10, [(3, 8)], [0, 1, 2, 3, 4], [5, 6, 7, 8, 9])

    def test_neither(self):
        self.both_ways(False, 2, [], [0], [1])
        self.both_ways(False, *PATH, [0], [2, 3])
        self.both_ways(False, *PATH, [0, 1], [3])
        # Ties that lead inside the one or the other alone.
        self.both_ways(False, 4, [(0, 1), (2, 3)], [0, 1], [2, 3])
        # A way over a third point is no tie.
        self.both_ways(False, 3, [(0, 1), (1, 2)], [0], [2])

    def test_points_in_any_order_and_twice(self):
        for one in permutations([0, 1, 4]):
            for other in permutations([2, 3, 5]):
                self.both_ways(True, 6, [(1, 5)], list(one), list(other))
                self.both_ways(False, 6, [(0, 4), (2, 5)], list(one), list(other))
        self.both_ways(True, *PATH, [3, 3], [2, 0, 2])
        self.both_ways(False, *PATH, [3, 3, 3], [1, 0, 0, 1])
        self.both_ways(True, 4, [], [3, 1, 3], [0, 3, 3])

    def test_empty_lists(self):
        for many, ties in (PATH, FULL, (1, []), (10, all_ties(10))):
            self.both_ways(False, many, ties, [], [])
            self.both_ways(False, many, ties, [], [0])
            self.both_ways(False, many, ties, [], list(range(many)))

    def test_every_small_web_and_all_short_lists(self):
        for many, ties in webs(3):
            lists = [list(points) for size in range(4) for points in product(range(many), repeat=size)]
            for one, other in product(lists, repeat=2):
                want = expected_touch(ties, one, other)
                self.assertIs(touch(many, ties, one, other), want, (many, ties, one, other))

    def test_numbers_that_are_no_points_mean_nothing(self):
        for number in (-1, -2, 4, 5, 10, 11, 10 ** 30, -10 ** 30):
            self.both_ways(False, *PATH, [number], [number])
            self.both_ways(False, *PATH, [number, 0], [3, number])
            self.both_ways(True, *PATH, [number, 0], [1, number])

    def test_one_list_handed_in_twice(self):
        one = [1, 0]
        self.both_ways(True, *PATH, one, one)
        none = []
        self.both_ways(False, *PATH, none, none)

    def test_nothing_is_kept(self):
        ties, one, other = [(0, 1)], [0], [2]
        self.assertIs(touch(3, ties, one, other), False)
        ties.append((0, 2))
        self.assertIs(touch(3, ties, one, other), True)
        one.clear()
        self.assertIs(touch(3, ties, one, other), False)
        one.append(2)
        self.assertIs(touch(3, ties, one, other), True)
        other[0] = 1
        self.assertIs(touch(3, ties, one, other), False)


class TestIsThicket(unittest.TestCase):
    def test_good_thickets(self):
        for many, ties, thing, _ in GOOD:
            for told in orders(ties):
                with self.subTest(many=many, ties=told, thing=thing):
                    self.assertIs(stays(self, is_thicket, many, told, thing), True)

    def test_pieces_in_any_order(self):
        for many, ties, thing, _ in GOOD:
            for told in orders(thing):
                with self.subTest(many=many, ties=ties, thing=told):
                    self.assertIs(stays(self, is_thicket, many, ties, told), True)

    def test_bad_thickets(self):
        for many, ties, thing in BAD:
            for told in orders(thing):
                with self.subTest(many=many, ties=ties, thing=told):
                    self.assertIs(stays(self, is_thicket, many, ties, told), False)

    def test_things_of_any_other_kind(self):
        for thing in things() + [((0,),), ([0],), {0: [0]}, "0", 0, 1, range(1), holding_itself(), [holding_itself()]]:
            for many, ties in ((1, []), PATH, FULL):
                with self.subTest(many=many, ties=ties, thing=thing):
                    self.assertIs(stays(self, is_thicket, many, ties, thing), False)

    def test_what_is_no_piece(self):
        for piece in NOT_A_PIECE + things():
            for thing in ([piece], [piece, [2], [0, 1]], [[2], piece, [0, 1]], [[2], [0, 1], piece], [piece, piece]):
                with self.subTest(thing=thing):
                    self.assertIs(stays(self, is_thicket, *PATH, thing), False)

    def test_ties_among_the_points_of_a_piece_alone(self):
        star = (4, [(0, 3), (1, 3), (2, 3)])
        self.assertIs(is_thicket(*star, [[0, 1]]), False)
        self.assertIs(is_thicket(*star, [[0, 1, 2]]), False)
        self.assertIs(is_thicket(*star, [[0, 1, 3]]), True)
        self.assertIs(is_thicket(*star, [[0, 1], [3]]), False)

    def test_every_small_web_and_all_small_things(self):
        for many, ties in webs(3):
            for size in range(4):
                for thing in product(some_pieces(many), repeat=size):
                    want = expected_thicket(ties, list(thing))
                    self.assertIs(is_thicket(many, ties, list(thing)), want, (many, ties, thing))
        for many, ties in webs(4):
            for thing in combinations(some_pieces(many), 2):
                want = expected_thicket(ties, list(thing))
                self.assertIs(is_thicket(many, ties, list(thing)), want, (many, ties, thing))

    def test_a_list_may_stand_in_two_places(self):
        piece = [0, 1]
        self.assertIs(stays(self, is_thicket, *PATH, [piece, piece]), True)

    def test_many_pieces(self):
        for many in (8, 10):
            pieces = some_pieces(many)[1:]
            self.assertIs(is_thicket(many, all_ties(many), pieces), True)
            self.assertIs(is_thicket(many, all_ties(many), pieces + [[]]), False)
            without = [tie for tie in all_ties(many) if tie != (2, 5)]
            self.assertIs(is_thicket(many, without, [piece for piece in pieces if piece != [2, 5]]), False)
        self.assertIs(is_thicket(2, [(0, 1)], [[0], [1]] * 2000), True)

    def test_nothing_is_kept(self):
        ties, thing = [(0, 1), (1, 2)], [[0], [1]]
        self.assertIs(is_thicket(3, ties, thing), True)
        thing[0].append(2)
        self.assertIs(is_thicket(3, ties, thing), False)
        ties.append((0, 2))
        self.assertIs(is_thicket(3, ties, thing), True)
        thing.append([])
        self.assertIs(is_thicket(3, ties, thing), False)
        thing.pop()
        self.assertIs(is_thicket(3, ties, thing), True)
        ties.clear()
        self.assertIs(is_thicket(3, ties, thing), False)


class TestLeastHit(unittest.TestCase):
    def hit(self, many, ties, thing):
        told = stays(self, least_hit, many, ties, thing)
        self.assertIs(type(told), int)
        return told

    def test_good_thickets(self):
        for many, ties, thing, want in GOOD:
            for pieces in orders(thing):
                with self.subTest(many=many, ties=ties, thing=pieces):
                    self.assertEqual(expected_hit(many, pieces), want)
                    self.assertEqual(self.hit(many, ties, pieces), want)

    def test_every_small_web_and_all_small_thickets(self):
        for many, ties in webs(3):
            for thing in chain(*(combinations(some_pieces(many)[1:], size) for size in range(1, 6))):
                if expected_thicket(ties, thing):
                    want = expected_hit(many, thing)
                    self.assertEqual(least_hit(many, ties, list(thing)), want, (many, ties, thing))

    def test_all_pieces_of_so_many_points_where_all_are_tied(self):
        for many in range(1, 8):
            for size in range(1, many + 1):
                thing = [list(piece) for piece in combinations(range(many), size)]
                with self.subTest(many=many, size=size):
                    self.assertEqual(self.hit(many, all_ties(many), thing), many - size + 1)
                    self.assertEqual(expected_hit(many, thing), many - size + 1)

    def test_where_the_points_that_hit_most_pieces_are_not_the_best(self):
        # 0 is in four pieces, but 1 and 2 together hit all six.
        thing = [[0, 1, 3], [0, 1, 4], [0, 2, 3], [0, 2, 4], [1, 5], [2, 6]]
        self.assertEqual(self.hit(7, all_ties(7), thing), 2)

    def test_what_is_no_thicket(self):
        for many, ties, thing in BAD:
            with self.subTest(many=many, ties=ties, thing=thing):
                refuses(self, BadThicket, least_hit, many, ties, thing)

    def test_things_of_any_other_kind(self):
        for thing in things() + [((0,),), ([0],), {0: [0]}, "0", 0, 1, range(1), holding_itself(), [holding_itself()]]:
            for many, ties in ((1, []), PATH, FULL):
                with self.subTest(many=many, ties=ties, thing=thing):
                    refuses(self, BadThicket, least_hit, many, ties, thing)

    def test_what_is_no_piece(self):
        for piece in NOT_A_PIECE + things():
            for thing in ([piece], [piece, [2], [0, 1]], [[2], [0, 1], piece]):
                with self.subTest(thing=thing):
                    refuses(self, BadThicket, least_hit, *PATH, thing)

    def test_nothing_is_kept(self):
        ties, thing = [(0, 1), (1, 2), (0, 2)], [[0], [1], [2]]
        self.assertEqual(least_hit(3, ties, thing), 3)
        thing[2].insert(0, 1)
        self.assertEqual(least_hit(3, ties, thing), 2)
        thing.append([2])
        self.assertEqual(least_hit(3, ties, thing), 3)
        ties.pop()
        refuses(self, BadThicket, least_hit, 3, ties, thing)
        ties.append((0, 2))
        self.assertEqual(least_hit(3, ties, thing), 3)


if __name__ == "__main__":
    unittest.main()
