"""Points 3 and 4, and point 1 as to layouts."""

import inspect
import unittest
from itertools import combinations, product

from bagtree import bags as module
from bagtree.bags import is_layout, wide
from bagtree.errors import BadLayout
from tests.asks import refuses, stays
from tests.layouts import BAD, GOOD, NOT_A_BAG, NOT_A_LINK, NOT_A_PAIR, PATH, SPREAD
from tests.samples import all_ties, orders, things, webs


def is_tree(many, links):
    """Whether the links lead once, and only once, from each bag to each other: as trees are grown."""
    placed = {0}
    left = list(links)
    while left:
        leaf = [link for link in left if (link[0] in placed) != (link[1] in placed)]
        if not leaf:
            return False
        placed.update(leaf[0])
        left.remove(leaf[0])
    return len(placed) == many


def expected(many, ties, bags, links):
    """Whether rising bags and links are a layout: in a tree, some bags hang together
    where there is one bag more than links among them."""
    if not is_tree(len(bags), links):
        return False
    for point in range(many):
        having = sum(point in bag for bag in bags)
        if having - sum(point in bags[low] and point in bags[high] for low, high in links) != 1:
            return False
    return all(any(low in bag and high in bag for bag in bags) for low, high in ties)


def some_bags(many):
    return [list(bag) for size in range(many + 1) for bag in combinations(range(many), size)]


class TestInterface(unittest.TestCase):
    def test_names_arguments_and_place(self):
        for name, arguments in (("is_layout", ["many", "ties", "thing"]), ("wide", ["many", "ties", "layout"])):
            with self.subTest(name=name):
                function = getattr(module, name)
                self.assertEqual(list(inspect.signature(function).parameters), arguments)
                self.assertEqual(function.__module__, "bagtree.bags")

    def test_arguments_by_name(self):
        self.assertIs(is_layout(many=1, ties=[], thing=([[0]], [])), True)
        self.assertEqual(wide(many=1, ties=[], layout=([[0]], [])), 1)


class TestIsLayout(unittest.TestCase):
    def test_good_layouts(self):
        for many, ties, thing, _ in GOOD:
            for told in orders(ties):
                with self.subTest(many=many, ties=told, thing=thing):
                    self.assertIs(stays(self, is_layout, many, told, thing), True)

    def test_links_in_any_order(self):
        for many, ties, (bags, links), _ in GOOD:
            for told in orders(links):
                with self.subTest(many=many, ties=ties, bags=bags, links=told):
                    self.assertIs(stays(self, is_layout, many, ties, (bags, told)), True)

    def test_bad_layouts(self):
        for many, ties, thing in BAD:
            with self.subTest(many=many, ties=ties, thing=thing):
                self.assertIs(stays(self, is_layout, many, ties, thing), False)

    def test_things_of_any_other_kind(self):
        for thing in things() + NOT_A_PAIR:
            for many, ties in (PATH, (1, []), SPREAD):
                with self.subTest(many=many, ties=ties, thing=thing):
                    self.assertIs(stays(self, is_layout, many, ties, thing), False)

    def test_pairs_of_things_of_any_kind(self):
        for thing in things():
            for pair in ((thing, []), ([[0]], thing), (thing, thing), ([[0], [0]], [thing]), ([thing], [])):
                with self.subTest(pair=pair):
                    self.assertIs(stays(self, is_layout, 1, [], pair), False)

    def test_what_is_no_bag(self):
        for bag in NOT_A_BAG + things():
            for bags in ([[0, 1], bag, [2, 3]], [[0, 1, 2], bag, [1, 2, 3]]):
                with self.subTest(bags=bags):
                    self.assertIs(stays(self, is_layout, *PATH, (bags, [(0, 1), (1, 2)])), False)

    def test_a_bag_that_is_wrong_where_nothing_else_is(self):
        for bag in [[0, 1, 1], [1, 0], [0, 0, 1], [0, 1, 2], [-1, 0, 1], [0, True], [False, 1], [0, 1, 1.0], (0, 1)]:
            with self.subTest(bag=bag):
                self.assertIs(stays(self, is_layout, 2, [], ([bag], [])), False)
                self.assertIs(stays(self, is_layout, 2, [(0, 1)], ([bag], [])), False)
                self.assertIs(stays(self, is_layout, 2, [], ([[0, 1], bag], [(0, 1)])), False)
                self.assertIs(stays(self, is_layout, 2, [], ([bag, [0, 1]], [(0, 1)])), False)

    def test_what_is_no_link(self):
        for link in NOT_A_LINK + things():
            for links in ([(0, 1), link], [link, (0, 1)]):
                with self.subTest(links=links):
                    self.assertIs(stays(self, is_layout, *PATH, ([[0, 1], [1, 2], [2, 3]], links)), False)

    def test_a_link_that_is_wrong_where_nothing_else_is(self):
        for link in [(1, 0), [0, 1], (False, True), (0, True), (0, 1.0), (0, 1, 1), (-2, 1), (0, -1), (-2, -1), (0, 2)]:
            with self.subTest(link=link):
                self.assertIs(stays(self, is_layout, 1, [], ([[0], [0]], [link])), False)

    def test_every_small_thing_of_bags_and_links(self):
        for many, ties in webs(3):
            for bag in some_bags(many):
                with self.subTest(many=many, ties=ties, bag=bag):
                    self.assertIs(is_layout(many, ties, ([bag], [])), expected(many, ties, [bag], []))
            trees = ([(0, 1), (0, 2)], [(0, 1), (1, 2)], [(1, 2), (0, 2)], [(0, 1), (0, 1)])
            for bags, links in product(product(some_bags(many), repeat=3), trees):
                thing = (list(bags), links)
                self.assertIs(is_layout(many, ties, thing), expected(many, ties, *thing), (many, ties, thing))

    def test_every_choice_of_three_links_between_four_bags(self):
        for links in product(all_ties(4), repeat=3):
            for bags in ([[0], [0], [0], [0]], [[0], [0, 1], [1], []], [[0, 1], [], [0], [1]]):
                thing = (bags, list(links))
                self.assertIs(is_layout(2, [], thing), expected(2, [], *thing), thing)

    def test_many_bags_in_a_row(self):
        bags = [[0, 1]] + [[1]] * 1500 + [[1, 2]]
        links = [(at, at + 1) for at in range(len(bags) - 1)]
        self.assertIs(is_layout(3, [(0, 1), (1, 2)], (bags, links)), True)
        self.assertEqual(wide(3, [(0, 1), (1, 2)], (bags, links)), 2)
        parted = bags[:700] + [[]] + bags[701:]
        self.assertIs(is_layout(3, [(0, 1), (1, 2)], (parted, links)), False)

    def test_a_list_may_stand_in_two_places(self):
        bag = [0, 1]
        self.assertIs(stays(self, is_layout, 2, [(0, 1)], ([bag, bag], [(0, 1)])), True)

    def test_nothing_is_kept(self):
        many, ties = 3, [(0, 1)]
        thing = ([[0, 1], [2]], [(0, 1)])
        self.assertIs(is_layout(many, ties, thing), True)
        thing[0][0].pop()
        self.assertIs(is_layout(many, ties, thing), False)
        thing[0][0].append(1)
        self.assertIs(is_layout(many, ties, thing), True)
        ties.append((1, 2))
        self.assertIs(is_layout(many, ties, thing), False)
        thing[0][1][:] = [1, 2]
        self.assertIs(is_layout(many, ties, thing), True)
        thing[1].clear()
        self.assertIs(is_layout(many, ties, thing), False)


class TestWide(unittest.TestCase):
    def test_the_size_of_the_greatest_bag(self):
        for many, ties, thing, want in GOOD:
            with self.subTest(many=many, ties=ties, thing=thing):
                told = stays(self, wide, many, ties, thing)
                self.assertIs(type(told), int)
                self.assertEqual(told, want)

    def test_wherever_the_greatest_bag_stands(self):
        for bags in ([[0, 1, 2], [2, 3], [3, 4]], [[0, 1], [1, 2, 3], [3, 4]], [[0, 1], [1, 2], [2, 3, 4]]):
            with self.subTest(bags=bags):
                self.assertEqual(wide(5, [], (bags, [(0, 1), (1, 2)])), 3)

    def test_layouts_of_each_width(self):
        for many in range(1, 11):
            for size in range(1, many + 1):
                bags = [list(range(low, low + size)) for low in range(many - size + 1)]
                links = [(at, at + 1) for at in range(len(bags) - 1)]
                ties = [tie for tie in all_ties(many) if tie[1] - tie[0] < size]
                with self.subTest(many=many, size=size):
                    self.assertEqual(wide(many, ties, (bags, links)), size)

    def test_what_is_no_layout(self):
        for many, ties, thing in BAD:
            with self.subTest(many=many, ties=ties, thing=thing):
                refuses(self, BadLayout, wide, many, ties, thing)

    def test_things_of_any_other_kind(self):
        for thing in things() + NOT_A_PAIR:
            for many, ties in (PATH, (1, []), SPREAD):
                with self.subTest(many=many, ties=ties, thing=thing):
                    refuses(self, BadLayout, wide, many, ties, thing)

    def test_what_is_no_bag_and_no_link(self):
        for bag in NOT_A_BAG + things():
            with self.subTest(bag=bag):
                refuses(self, BadLayout, wide, *PATH, ([[0, 1], bag, [2, 3]], [(0, 1), (1, 2)]))
                refuses(self, BadLayout, wide, *PATH, ([[0, 1, 2, 3], bag], [(0, 1)]))
        for link in NOT_A_LINK + things():
            with self.subTest(link=link):
                refuses(self, BadLayout, wide, *PATH, ([[0, 1], [1, 2], [2, 3]], [(0, 1), link]))

    def test_nothing_is_kept(self):
        thing = ([[0, 1], [1, 2]], [(0, 1)])
        ties = [(0, 1), (1, 2)]
        self.assertEqual(wide(3, ties, thing), 2)
        thing[0][0].append(2)
        self.assertEqual(wide(3, ties, thing), 3)
        ties.append((0, 2))
        self.assertEqual(wide(3, ties, thing), 3)
        thing[0][0].pop()
        refuses(self, BadLayout, wide, 3, ties, thing)


if __name__ == "__main__":
    unittest.main()
