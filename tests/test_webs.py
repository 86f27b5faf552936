"""Point 1 as to webs, and point 2."""

import inspect
import unittest

from bagtree import webs as module
from bagtree.bags import is_layout, wide
from bagtree.errors import BadWeb
from bagtree.webs import beside, need_web, pieces
from tests.asks import plain, refuses, stays
from tests.samples import Touchy, all_ties, no_webs, orders, webs


def reached(many, ties, left):
    """For each point left those that one comes to, by going on until nothing is new."""
    near = {point: {point} for point in left}
    changed = True
    while changed:
        changed = False
        for low, high in ties:
            if low in near and high in near and near[low] != near[high]:
                both = near[low] | near[high]
                for point in both:
                    near[point] = both
                changed = True
    return near


def expected_pieces(many, ties, gone):
    left = [point for point in range(many) if point not in gone]
    near = reached(many, ties, left)
    return sorted({tuple(sorted(near[point])) for point in left})


class TestInterface(unittest.TestCase):
    def test_names_arguments_and_place(self):
        for name, arguments in (
            ("need_web", ["many", "ties"]), ("beside", ["many", "ties"]), ("pieces", ["many", "ties", "gone"]),
        ):
            with self.subTest(name=name):
                function = getattr(module, name)
                self.assertEqual(list(inspect.signature(function).parameters), arguments)
                self.assertEqual(function.__module__, "bagtree.webs")

    def test_arguments_by_name(self):
        self.assertIsNone(need_web(many=2, ties=[(0, 1)]))
        self.assertEqual(beside(many=2, ties=[(0, 1)]), [[1], [0]])
        self.assertEqual(pieces(many=2, ties=[(0, 1)], gone=[0]), [[1]])


class TestNeedWeb(unittest.TestCase):
    def test_good_webs(self):
        for many, ties in webs(4):
            for told in orders(ties):
                with self.subTest(many=many, ties=told):
                    self.assertIsNone(stays(self, need_web, many, told))

    def test_each_number_of_points(self):
        for many in range(1, 11):
            with self.subTest(many=many):
                self.assertIsNone(need_web(many, []))
                self.assertIsNone(need_web(many, all_ties(many)))
                self.assertIsNone(need_web(many, all_ties(many)[::-1]))

    def test_what_is_no_web(self):
        for many, ties in no_webs():
            with self.subTest(many=many, ties=ties):
                refuses(self, BadWeb, need_web, many, ties)

    def test_nothing_is_kept_of_a_web(self):
        ties = [(0, 1)]
        self.assertIsNone(need_web(3, ties))
        ties.append((1, 0))
        refuses(self, BadWeb, need_web, 3, ties)
        ties.pop()
        self.assertIsNone(need_web(3, ties))
        refuses(self, BadWeb, need_web, 1, ties)


class TestBadWebAheadOfAllElse(unittest.TestCase):
    def test_beside(self):
        for many, ties in no_webs():
            with self.subTest(many=many, ties=ties):
                refuses(self, BadWeb, beside, many, ties)

    def test_pieces(self):
        for many, ties in no_webs():
            for gone in ([], [0], None, 7, Touchy()):
                with self.subTest(many=many, ties=ties, gone=gone):
                    refuses(self, BadWeb, pieces, many, ties, gone)

    def test_is_layout(self):
        for many, ties in no_webs():
            for thing in (([[0, 1, 2]], []), ([], []), None, Touchy()):
                with self.subTest(many=many, ties=ties, thing=thing):
                    refuses(self, BadWeb, is_layout, many, ties, thing)

    def test_wide(self):
        for many, ties in no_webs():
            for thing in (([[0, 1, 2]], []), ([], []), None, Touchy()):
                with self.subTest(many=many, ties=ties, thing=thing):
                    refuses(self, BadWeb, wide, many, ties, thing)


class TestBeside(unittest.TestCase):
    def test_without_ties(self):
        self.assertEqual(beside(1, []), [[]])
        self.assertEqual(beside(10, []), [[] for _ in range(10)])

    def test_some_webs(self):
        self.assertEqual(beside(2, [(0, 1)]), [[1], [0]])
        self.assertEqual(beside(5, [(3, 4), (0, 3), (1, 3)]), [[3], [3], [], [0, 1, 4], [3]])
        self.assertEqual(beside(4, [(2, 3), (1, 2), (0, 2)]), [[2], [2], [0, 1, 3], [2]])

    def test_every_small_web_in_whatever_order(self):
        for many, ties in webs(4):
            want = [
                [other for other in range(many) if (point, other) in ties or (other, point) in ties]
                for point in range(many)
            ]
            for told in orders(ties):
                with self.subTest(many=many, ties=told):
                    self.assertEqual(plain(stays(self, beside, many, told)), plain(want))

    def test_all_tied(self):
        want = [[other for other in range(10) if other != point] for point in range(10)]
        for told in orders(all_ties(10)):
            self.assertEqual(plain(beside(10, told)), plain(want))

    def test_what_is_told_stays(self):
        ties = [(1, 2), (0, 2)]
        first = beside(3, ties)
        second = beside(3, ties)
        ties.clear()
        for row in second:
            row.append(9)
        second.clear()
        beside(3, [(0, 1)])
        self.assertEqual(first, [[2], [2], [0, 1]])
        self.assertEqual(beside(3, [(1, 2), (0, 2)]), [[2], [2], [0, 1]])

    def test_the_lists_told_are_lists_of_their_own(self):
        told = beside(4, [(0, 2), (1, 2)])
        told[0].append(9)
        told[3].append(8)
        self.assertEqual(told, [[2, 9], [2], [0, 1], [8]])
        none = beside(3, [])
        none[0].append(9)
        self.assertEqual(none, [[9], [], []])
        self.assertEqual(beside(3, []), [[], [], []])


class TestPieces(unittest.TestCase):
    def test_with_no_point_gone(self):
        self.assertEqual(pieces(1, [], []), [[0]])
        self.assertEqual(pieces(3, [], []), [[0], [1], [2]])
        self.assertEqual(pieces(3, [(0, 1), (1, 2)], []), [[0, 1, 2]])
        self.assertEqual(pieces(6, [(3, 5), (0, 4), (2, 3)], []), [[0, 4], [1], [2, 3, 5]])

    def test_with_some_gone(self):
        path = [(0, 1), (1, 2), (2, 3), (3, 4)]
        self.assertEqual(pieces(5, path, [2]), [[0, 1], [3, 4]])
        self.assertEqual(pieces(5, path, [3, 1]), [[0], [2], [4]])
        self.assertEqual(pieces(5, path, [0, 4]), [[1, 2, 3]])
        self.assertEqual(pieces(5, path, [1, 2, 3, 4]), [[0]])

    def test_a_web_of_which_all_are_gone(self):
        self.assertEqual(pieces(1, [], [0]), [])
        self.assertEqual(pieces(3, [(0, 1), (1, 2)], [2, 0, 1]), [])
        self.assertEqual(pieces(10, all_ties(10), list(range(-3, 14))), [])

    def test_numbers_that_are_no_points_mean_nothing(self):
        for gone in ([-1], [3], [-3, -2, -1], [3, 4, 10, 10 ** 30], [-10 ** 30]):
            with self.subTest(gone=gone):
                self.assertEqual(stays(self, pieces, 3, [(0, 1)], gone), [[0, 1], [2]])
                self.assertEqual(stays(self, pieces, 3, [(0, 1)], gone + [0]), [[1], [2]])
                self.assertEqual(stays(self, pieces, 3, [(0, 1)], [2] + gone), [[0, 1]])

    def test_numbers_told_twice(self):
        self.assertEqual(stays(self, pieces, 4, [(0, 1), (1, 2)], [1, 1]), [[0], [2], [3]])
        self.assertEqual(stays(self, pieces, 4, [(0, 1), (1, 2)], [1, 3, 1, 3, 3]), [[0], [2]])
        self.assertEqual(stays(self, pieces, 4, [(0, 1), (1, 2)], [9, 1, 9, -1, -1, 1]), [[0], [2], [3]])

    def test_order_in_and_of_the_pieces(self):
        self.assertEqual(pieces(6, [(4, 5), (0, 5), (1, 3), (1, 4)], []), [[0, 1, 3, 4, 5], [2]])
        self.assertEqual(pieces(7, [(0, 6), (5, 6), (1, 5), (2, 3)], []), [[0, 1, 5, 6], [2, 3], [4]])
        self.assertEqual(pieces(8, [(6, 7), (0, 7), (1, 2), (3, 6), (4, 5)], []), [[0, 3, 6, 7], [1, 2], [4, 5]])
        self.assertEqual(pieces(9, [(0, 8), (3, 8), (1, 7), (2, 6)], [0]), [[1, 7], [2, 6], [3, 8], [4], [5]])

    def test_every_small_web_with_any_points_gone(self):
        for many, ties in webs(4):
            for at in range(2 ** many):
                gone = [point for point in range(many) if at >> point & 1]
                want = plain([list(piece) for piece in expected_pieces(many, ties, gone)])
                for told in orders(ties):
                    with self.subTest(many=many, ties=told, gone=gone):
                        self.assertEqual(plain(stays(self, pieces, many, told, gone)), want)
                        self.assertEqual(plain(stays(self, pieces, many, told, gone[::-1])), want)

    def test_great_webs(self):
        for step in range(1, 10):
            ties = [(low, low + step) for low in range(10 - step)]
            for gone in ([], [5], [4, 6], [0, 9]):
                want = [list(piece) for piece in expected_pieces(10, ties, gone)]
                for told in orders(ties):
                    with self.subTest(ties=told, gone=gone):
                        self.assertEqual(plain(pieces(10, told, gone)), plain(want))

    def test_what_is_told_stays(self):
        ties = [(0, 1), (2, 3)]
        gone = [4]
        first = pieces(5, ties, gone)
        second = pieces(5, ties, gone)
        ties.append((1, 2))
        gone.clear()
        for piece in second:
            piece.append(9)
        second.clear()
        self.assertEqual(first, [[0, 1], [2, 3]])
        self.assertEqual(pieces(5, ties, gone), [[0, 1, 2, 3], [4]])
        self.assertEqual(first, [[0, 1], [2, 3]])
        self.assertEqual(pieces(5, [(0, 1), (2, 3)], [4]), [[0, 1], [2, 3]])

    def test_what_is_told_may_be_handed_in_again(self):
        told = pieces(4, [(0, 1)], [])
        self.assertEqual(pieces(4, [(0, 1)], told[0]), [[2], [3]])
        self.assertEqual(told, [[0, 1], [2], [3]])


if __name__ == "__main__":
    unittest.main()
