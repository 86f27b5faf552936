"""Point 7, and points 1, 3 and 4 as to what is told of layouts and thickets."""

import inspect
import unittest
from itertools import permutations

from bagtree import laying as module
from bagtree.bags import is_layout, wide
from bagtree.errors import BadCount, BadWeb
from bagtree.laying import layout, least, thicket, told
from bagtree.thickets import is_thicket, least_hit
from tests.asks import are_own, plain, refuses, spoil, stays
from tests.samples import Touchy, all_ties, no_webs, orders, things, webs


def row(many):
    return many, [(at, at + 1) for at in range(many - 1)]


def ring(many):
    return many, [(at, at + 1) for at in range(many - 1)] + [(0, many - 1)]


def star(many, middle):
    return many, [(min(middle, at), max(middle, at)) for at in range(many) if at != middle]


def full(many):
    return many, all_ties(many)


def two_sides(one, other):
    return one + other, [(low, one + high) for low in range(one) for high in range(other)]


def grid(rows, columns):
    many = rows * columns
    beside = [(at, at + 1) for at in range(many) if (at + 1) % columns]
    return many, beside + [(at, at + columns) for at in range(many - columns)]


PETERSEN = (10, sorted(
    [(at, at + 1) for at in range(4)] + [(0, 4)] + [(at, at + 5) for at in range(5)]
    + [(5, 7), (7, 9), (6, 9), (6, 8), (5, 8)]
))
CUBE = (8, [(low, low | bit) for low in range(8) for bit in (1, 2, 4) if not low & bit])
OCTAHEDRON = (6, [tie for tie in all_ties(6) if tie[1] - tie[0] != 3])
# Webs of several pieces, of which a later one, or an earlier one, is the widest.
PARTED = (9, [(0, 8), (1, 2), (1, 3), (2, 3), (4, 5), (4, 6), (4, 7), (5, 6), (5, 7), (6, 7)])
PARTED_TOO = (9, [(0, 1), (0, 2), (0, 3), (1, 2), (1, 3), (2, 3), (4, 6), (6, 8), (4, 8)])
# A web in which not all that is around a piece of a thicket may go into the thicket, too.
TANGLE = (7, [
    (0, 1), (0, 2), (0, 3), (0, 4), (0, 5), (1, 3), (1, 6), (2, 4), (2, 5), (2, 6), (3, 6), (4, 5),
])

# With the least width of the layouts of each.
KNOWN = (
    [(row(many), 2) for many in range(2, 11)]
    + [(star(many, middle), 2) for many in range(2, 11) for middle in (0, many // 2, many - 1)]
    + [(ring(many), 3) for many in range(3, 11)]
    + [(full(many), many) for many in range(1, 11)]
    + [((many, []), 1) for many in range(1, 11)]
    + [((many, all_ties(many)[:-1]), many - 1) for many in range(2, 11)]
    + [(two_sides(low, 10 - low), low + 1) for low in range(1, 6)]
    + [(grid(2, 5), 3), (grid(3, 3), 4), (PETERSEN, 5), (CUBE, 4), (OCTAHEDRON, 5), (PARTED, 4), (PARTED_TOO, 4)]
    + [(TANGLE, 4)]
)


def width_of_order(many, ties, order):
    """The width of the layout in which points go out in this order, those beside each tied from then on."""
    near = {point: set() for point in range(many)}
    for low, high in ties:
        near[low].add(high)
        near[high].add(low)
    width = 1
    for point in order:
        gone = near.pop(point)
        width = max(width, len(gone) + 1)
        for other in gone:
            near[other] = (near[other] | gone) - {point, other}
    return width


def expected_least(many, ties):
    return min(width_of_order(many, ties, order) for order in permutations(range(many)))


def between(many):
    """Some webs of so many points between the one without ties and the one with all."""
    pairs = all_ties(many)
    for step in range(2, 12):
        for start in range(3):
            yield many, pairs[start::step]
            yield many, [pair for at, pair in enumerate(pairs) if (at + start) % step]
    for code in (1, 22, 333, 4444, 5555, 12345, 21845, 27030, 30011, 32000):
        yield many, [pair for at, pair in enumerate(pairs) if code >> at & 1][::-1]


def some_webs():
    """Webs of 1 to 6 points: all of up to 4, and many of 5 and 6."""
    yield from webs(4)
    for many in (5, 6):
        yield many, []
        yield full(many)
        yield from (web for web, _ in KNOWN if web[0] == many)
        yield from between(many)


def bad_mosts(many):
    """What is no number from 1 to many."""
    return things() + [
        0, many + 1, many + 2, 11, -1, -2, -many, 10 ** 30, -10 ** 30, float(many), str(many), "1", [], [1], (1,), {1},
    ]


class AsksOfAnswers(unittest.TestCase):
    def good_bags(self, many, ties, most, found):
        self.assertIs(is_layout(many, ties, found), True)
        self.assertLessEqual(wide(many, ties, found), most)

    def good_thicket(self, many, ties, most, found):
        self.assertIs(is_thicket(many, ties, found), True)
        self.assertGreater(least_hit(many, ties, found), most)

    def good_answers(self, many, ties, most, width):
        """Look at what the three functions tell of a web whose least width is known."""
        answer = stays(self, told, many, ties, most)
        self.assertIs(type(answer), tuple)
        self.assertEqual(len(answer), 2)
        kind, found = answer
        bags = stays(self, layout, many, ties, most)
        pieces = stays(self, thicket, many, ties, most)
        if width <= most:
            self.assertEqual(kind, "bags")
            self.good_bags(many, ties, most, found)
            self.good_bags(many, ties, most, bags)
            self.assertIsNone(pieces)
        else:
            self.assertEqual(kind, "thicket")
            self.good_thicket(many, ties, most, found)
            self.good_thicket(many, ties, most, pieces)
            self.assertIsNone(bags)
        are_own(self, answer, bags, pieces, ties)


class TestInterface(unittest.TestCase):
    def test_names_arguments_and_place(self):
        for name, arguments in (
            ("layout", ["many", "ties", "most"]), ("thicket", ["many", "ties", "most"]),
            ("told", ["many", "ties", "most"]), ("least", ["many", "ties"]),
        ):
            with self.subTest(name=name):
                function = getattr(module, name)
                self.assertEqual(list(inspect.signature(function).parameters), arguments)
                self.assertEqual(function.__module__, "bagtree.laying")

    def test_arguments_by_name(self):
        self.assertIs(is_layout(2, [(0, 1)], layout(many=2, ties=[(0, 1)], most=2)), True)
        self.assertIs(is_thicket(2, [(0, 1)], thicket(many=2, ties=[(0, 1)], most=1)), True)
        self.assertEqual(told(many=2, ties=[(0, 1)], most=1)[0], "thicket")
        self.assertEqual(least(many=2, ties=[(0, 1)]), 2)


class TestRefusals(unittest.TestCase):
    def test_bad_web_ahead_of_all_else(self):
        for many, ties in no_webs():
            with self.subTest(many=many, ties=ties):
                refuses(self, BadWeb, least, many, ties)
                for most in (1, 0, 99, True, None, Touchy()):
                    for function in (layout, thicket, told):
                        refuses(self, BadWeb, function, many, ties, most)

    def test_what_is_no_number_from_1_to_many(self):
        for many, ties in ((1, []), (2, [(0, 1)]), (3, []), ring(5), full(10), (10, [])):
            for most in bad_mosts(many):
                for function in (layout, thicket, told):
                    with self.subTest(function=function.__name__, many=many, ties=ties, most=most):
                        refuses(self, BadCount, function, many, ties, most)

    def test_each_number_from_1_to_many_is_good(self):
        for many in range(1, 11):
            for most in range(1, many + 1):
                with self.subTest(many=many, most=most):
                    self.assertEqual(told(many, [], most)[0], "bags")
                    self.assertIsNotNone(layout(many, [], most))
                    self.assertIsNone(thicket(many, [], most))


class TestToldLayoutAndThicket(AsksOfAnswers):
    def test_webs_of_1_to_6_points_and_every_number(self):
        for many, ties in some_webs():
            width = expected_least(many, ties)
            for most in range(1, many + 1):
                with self.subTest(many=many, ties=ties, most=most):
                    self.good_answers(many, ties, most, width)

    def test_known_webs_and_the_numbers_about_their_width(self):
        for (many, ties), width in KNOWN:
            for most in sorted({1, max(1, width - 1), width, many}):
                with self.subTest(many=many, ties=ties, most=most):
                    self.good_answers(many, ties, most, width)

    def test_ties_in_any_order(self):
        for (many, ties), width in ((grid(2, 3), 3), (OCTAHEDRON, 5), (PARTED, 4), (star(7, 3), 2)):
            for other in orders(ties):
                for most in range(1, many + 1):
                    with self.subTest(many=many, ties=other, most=most):
                        self.good_answers(many, other, most, width)

    def test_greater_webs(self):
        for many in (7, 8, 9, 10):
            for web in list(between(many))[::8]:
                width = least(*web)
                for most in range(1, many + 1):
                    with self.subTest(web=web, most=most):
                        self.good_answers(*web, most, width)


class TestLeast(unittest.TestCase):
    def test_known_webs(self):
        for (many, ties), want in KNOWN:
            for other in orders(ties):
                with self.subTest(many=many, ties=other):
                    width = stays(self, least, many, other)
                    self.assertIs(type(width), int)
                    self.assertEqual(width, want)

    def test_the_least_over_all_orders_of_the_points(self):
        for many, ties in some_webs():
            with self.subTest(many=many, ties=ties):
                self.assertEqual(stays(self, least, many, ties), expected_least(many, ties))

    def test_whatever_the_points_are_called(self):
        many, ties = grid(2, 3)
        for names in permutations(range(many)):
            other = [tuple(sorted((names[low], names[high]))) for low, high in ties]
            self.assertEqual(least(many, other), 3, other)


class TestWhatIsToldStays(AsksOfAnswers):
    def test_answers_share_no_list(self):
        for many, ties in (row(4), ring(5), full(4), PARTED, (3, []), (1, []), PETERSEN):
            for most in range(1, many + 1):
                with self.subTest(many=many, ties=ties, most=most):
                    answers = [function(many, ties, most) for function in (told, told, layout, layout, thicket, thicket)]
                    are_own(self, answers, ties)

    def test_nothing_done_later_changes_an_answer(self):
        for many, ties in (row(4), ring(5), full(4), PARTED, (3, []), (1, [])):
            width = least(many, ties)
            for most in range(1, many + 1):
                for function in (told, layout, thicket):
                    with self.subTest(function=function.__name__, many=many, ties=ties, most=most):
                        handed = list(ties)
                        first = function(many, handed, most)
                        before = plain(first)
                        second = function(many, handed, most)
                        spoil(second)
                        handed.clear()
                        for other in (told, layout, thicket):
                            spoil(other(many, handed, most))
                            spoil(other(many, ties, 1))
                        self.assertEqual(plain(first), before)
                        spoil(first)
                        self.good_answers(many, list(ties), most, width)
                        self.assertEqual(least(many, ties), width)

    def test_nothing_is_kept_of_what_was_handed_in(self):
        ties = [(0, 1), (1, 2)]
        self.assertEqual(least(3, ties), 2)
        self.assertEqual(told(3, ties, 2)[0], "bags")
        ties.append((0, 2))
        self.assertEqual(least(3, ties), 3)
        self.assertIsNone(layout(3, ties, 2))
        self.good_thicket(3, ties, 2, thicket(3, ties, 2))
        self.assertEqual(told(3, ties, 2)[0], "thicket")
        ties.clear()
        self.assertEqual(least(3, ties), 1)
        self.good_bags(3, ties, 1, layout(3, ties, 1))
        self.assertIsNone(thicket(3, ties, 1))
        ties.append((1, 0))
        refuses(self, BadWeb, told, 3, ties, 1)


if __name__ == "__main__":
    unittest.main()
