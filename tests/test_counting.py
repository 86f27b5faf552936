"""Point 8, and point 1 as to colourings."""

import inspect
import unittest
from itertools import product

from bagtree import counting as module
from bagtree.bags import is_layout
from bagtree.counting import colourings
from bagtree.errors import BadCount, BadLayout, BadWeb
from bagtree.laying import layout
from tests.asks import refuses, stays
from tests.layouts import BAD, GOOD, NOT_A_BAG, NOT_A_LINK, NOT_A_PAIR, PATH, RING, SPREAD
from tests.samples import Touchy, all_ties, no_webs, orders, things, webs

BAD_COLOURS = things() + [5, 6, 10, -1, -2, 10 ** 30, -10 ** 30, 4.0, 0.0, "0", "4", [], [4], (4,), {4}]


def expected(many, ties, colours):
    """The number of colourings, by trying all."""
    return sum(
        all(colouring[low] != colouring[high] for low, high in ties)
        for colouring in product(range(colours), repeat=many)
    )


def by_order(many, ties, order):
    """The layout in which points go out in this order, a bag for each with those still there that it is beside."""
    near = {point: {other for tie in ties if point in tie for other in tie} - {point} for point in range(many)}
    bags, links = [], []
    for at, point in enumerate(order):
        later = near.pop(point)
        bags.append(sorted(later | {point}))
        if at + 1 < many:
            links.append((at, min((order.index(other) for other in later), default=at + 1)))
        for other in later:
            near[other] = (near[other] | later) - {point, other}
    return bags, links


def turned(bags, links):
    """The same layout with its bags the other way round, so that another one is the first."""
    last = len(bags) - 1
    return bags[::-1], [(last - high, last - low) for low, high in links][::-1]


def with_empty_bags(bags, links):
    """The layout with an empty bag ahead of all others, and one behind them."""
    return [[]] + bags + [[]], [(low + 1, high + 1) for low, high in links] + [(0, 1), (len(bags), len(bags) + 1)]


def with_alike_bags(bags, links):
    """The layout with each bag once more, linked with the first of its kind."""
    return bags + [list(bag) for bag in bags], links + [(at, len(bags) + at) for at in range(len(bags))]


def parted_by_an_empty_bag(many):
    """A layout of the web without ties: single points around an empty bag."""
    return [[point] for point in range(many)] + [[]], [(point, many) for point in range(many)]


def layouts(many, ties):
    """Several layouts of one web."""
    whole = [list(range(many))], []
    found = [whole, with_empty_bags(*whole), with_alike_bags(*whole), layout(many, ties, many)]
    for order in (range(many), range(many)[::-1], [*range(many)[1::2], *range(many)[::2]]):
        one = by_order(many, ties, list(order))
        found += [one, turned(*one), with_empty_bags(*one), with_alike_bags(*one), turned(*with_alike_bags(*one))]
    return found


def some_webs():
    yield from webs(4)
    yield RING
    yield 5, [(0, 4), (1, 4), (2, 4), (3, 4)]
    yield 5, [(0, 1), (0, 2), (0, 3), (0, 4)]
    yield 5, all_ties(5)
    yield 5, all_ties(5)[:-1]
    yield 6, [(0, 1), (1, 2), (0, 2), (3, 4), (4, 5), (3, 5)]
    yield 6, [(low, 3 + high) for low in range(3) for high in range(3)]
    yield 6, []


class TestInterface(unittest.TestCase):
    def test_names_arguments_and_place(self):
        self.assertEqual(list(inspect.signature(colourings).parameters), ["many", "ties", "layout", "colours"])
        self.assertIs(module.colourings, colourings)
        self.assertEqual(colourings.__module__, "bagtree.counting")

    def test_arguments_by_name(self):
        self.assertEqual(colourings(many=2, ties=[(0, 1)], layout=([[0, 1]], []), colours=3), 6)


class TestColourings(unittest.TestCase):
    def count(self, many, ties, thing, colours):
        found = stays(self, colourings, many, ties, thing, colours)
        self.assertIs(type(found), int)
        return found

    def test_along_several_layouts_of_one_web(self):
        for many, ties in some_webs():
            for colours in range(5):
                want = expected(many, ties, colours)
                for thing in layouts(many, ties):
                    with self.subTest(many=many, ties=ties, thing=thing, colours=colours):
                        self.assertIs(is_layout(many, ties, thing), True)
                        self.assertEqual(self.count(many, ties, thing, colours), want)

    def test_good_layouts(self):
        for many, ties, thing, _ in GOOD:
            for colours in range(5 if many < 8 else 3):
                want = expected(many, ties, colours)
                for told in orders(ties):
                    with self.subTest(many=many, ties=told, thing=thing, colours=colours):
                        self.assertEqual(self.count(many, told, thing, colours), want)

    def test_links_in_any_order(self):
        for many, ties, (bags, links), _ in GOOD:
            for told in orders(links):
                with self.subTest(many=many, ties=ties, bags=bags, links=told):
                    self.assertEqual(self.count(many, ties, (bags, told), 2), expected(many, ties, 2))

    def test_around_an_empty_bag(self):
        for many in range(1, 7):
            for colours in range(5):
                with self.subTest(many=many, colours=colours):
                    self.assertEqual(self.count(many, [], parted_by_an_empty_bag(many), colours), colours ** many)

    def test_known_counts(self):
        row = [(at, at + 1) for at in range(9)], ([[at, at + 1] for at in range(9)], [(at, at + 1) for at in range(8)])
        star = [(at, 9) for at in range(9)], ([[at, 9] for at in range(9)], [(0, at) for at in range(1, 9)])
        ring = row[0] + [(0, 9)], ([[0, at, at + 1] for at in range(1, 9)], [(at, at + 1) for at in range(7)])
        one_bag = [list(range(10))], []
        for colours in range(5):
            tree = colours * (colours - 1) ** 9
            with self.subTest(colours=colours):
                self.assertEqual(self.count(10, *row, colours), tree)
                self.assertEqual(self.count(10, *star, colours), tree)
                self.assertEqual(self.count(10, *ring, colours), (colours - 1) ** 10 + (colours - 1))
                self.assertEqual(self.count(10, row[0], one_bag, colours), tree)
                self.assertEqual(self.count(10, ring[0], one_bag, colours), (colours - 1) ** 10 + (colours - 1))
                self.assertEqual(self.count(10, [], one_bag, colours), colours ** 10)
                self.assertEqual(self.count(10, all_ties(10), one_bag, colours), 0)
                self.assertEqual(self.count(4, all_ties(4), ([[0, 1, 2, 3]], []), colours), 24 if colours == 4 else 0)

    def test_no_colours_and_one(self):
        for many, ties in webs(4):
            for thing in layouts(many, ties):
                with self.subTest(many=many, ties=ties, thing=thing):
                    self.assertEqual(self.count(many, ties, thing, 0), 0)
                    self.assertEqual(self.count(many, ties, thing, 1), 0 if ties else 1)

    def test_many_bags_in_a_row(self):
        bags = [[0, 1]] + [[1]] * 1500 + [[]] * 1500 + [[2, 3]] * 2
        links = [(at, at + 1) for at in range(len(bags) - 1)]
        self.assertEqual(self.count(4, [(0, 1), (2, 3)], (bags, links), 4), 144)
        self.assertEqual(self.count(4, [(0, 1), (2, 3)], turned(bags, links), 4), 144)

    def test_a_list_may_stand_in_two_places(self):
        bag = [0, 1]
        self.assertEqual(self.count(2, [(0, 1)], ([bag, bag], [(0, 1)]), 3), 6)

    def test_nothing_is_kept(self):
        ties, thing = [(0, 1), (1, 2)], ([[0, 1, 2]], [])
        self.assertEqual(colourings(3, ties, thing, 3), 12)
        ties.append((0, 2))
        self.assertEqual(colourings(3, ties, thing, 3), 6)
        thing[0][0].pop()
        refuses(self, BadLayout, colourings, 3, ties, thing, 3)
        thing[0].append([0, 1, 2])
        thing[1].append((0, 1))
        self.assertEqual(colourings(3, ties, thing, 3), 6)
        ties.clear()
        self.assertEqual(colourings(3, ties, thing, 3), 27)
        self.assertEqual(colourings(3, [(0, 1), (1, 2)], ([[0, 1, 2]], []), 3), 12)


class TestRefusals(unittest.TestCase):
    def test_bad_web_ahead_of_all_else(self):
        for many, ties in no_webs():
            for thing in (([[0, 1, 2]], []), ([], []), None, Touchy()):
                for colours in (3, 5, True, None, Touchy()):
                    with self.subTest(many=many, ties=ties, thing=thing, colours=colours):
                        refuses(self, BadWeb, colourings, many, ties, thing, colours)

    def test_bad_layout_ahead_of_bad_count(self):
        for many, ties, thing in BAD:
            for colours in (0, 3, 4, 5, -1, True, None, "3", Touchy()):
                with self.subTest(many=many, ties=ties, thing=thing, colours=colours):
                    refuses(self, BadLayout, colourings, many, ties, thing, colours)

    def test_things_of_any_kind_that_are_no_layouts(self):
        for thing in things() + NOT_A_PAIR:
            for many, ties in (PATH, (1, []), SPREAD):
                for colours in (0, 2, 5, None):
                    with self.subTest(many=many, ties=ties, thing=thing, colours=colours):
                        refuses(self, BadLayout, colourings, many, ties, thing, colours)

    def test_what_is_no_bag_and_no_link(self):
        for bag in NOT_A_BAG + things():
            with self.subTest(bag=bag):
                refuses(self, BadLayout, colourings, *PATH, ([[0, 1], bag, [2, 3]], [(0, 1), (1, 2)]), 2)
        for link in NOT_A_LINK + things():
            with self.subTest(link=link):
                refuses(self, BadLayout, colourings, *PATH, ([[0, 1], [1, 2], [2, 3]], [(0, 1), link]), 2)

    def test_what_is_no_number_of_colours_from_0_to_4(self):
        for many, ties, thing, _ in GOOD:
            for colours in BAD_COLOURS:
                with self.subTest(many=many, ties=ties, thing=thing, colours=colours):
                    refuses(self, BadCount, colourings, many, ties, thing, colours)

    def test_each_number_from_0_to_4_is_good(self):
        self.assertEqual([colourings(1, [], ([[0]], []), colours) for colours in range(5)], [0, 1, 2, 3, 4])


if __name__ == "__main__":
    unittest.main()
