"""Points 11 to 14: crowds, colours and points apart, and their refusals."""

import itertools
import unittest

from shortring.crowds import apart, coloured, full_crowds, is_crowd
from shortring.webs import web_of
from tests import second
from tests.helpers import (
    FAR, all_pairs, all_tie_lists, few_points, great_tie_lists, mixed, no_orders, numbers, refused, some_orders,
)

SQUARE = [(0, 1), (0, 3), (1, 2), (2, 3)]

# Two crowds of three, 0 1 2 and 1 2 3, a tie 3-4, and 5 alone.
BAND = [(0, 1), (0, 2), (1, 2), (1, 3), (2, 3), (3, 4)]

BY_ORDER = (full_crowds, coloured, apart)


def orders_without_a_gap():
    """Webs of up to eight points, each with some of its orders without a gap."""
    row = numbers(21)
    for many, ties in few_points():
        gone, left = second.taken(many, ties)
        orders = some_orders(row, many, 8) + ([gone] if not left else [])
        yield many, ties, [order for order in orders if second.gap(ties, order) is None]


class Interface(unittest.TestCase):

    def test_all_is_defined_in_its_file(self):
        for action in (is_crowd, full_crowds, coloured, apart):
            self.assertEqual(action.__module__, "shortring.crowds")

    def test_names_of_the_arguments(self):
        web = web_of(2, [(0, 1)])
        self.assertIs(is_crowd(web=web, points=[1, 0]), True)
        self.assertEqual(full_crowds(web=web, order=[1, 0]), [[0, 1]])
        self.assertEqual(coloured(web=web, order=[1, 0]), [0, 1])
        self.assertEqual(apart(web=web, order=[1, 0]), ([1], [[0, 1]]))

    def test_kinds_of_values(self):
        web = web_of(6, BAND)
        order = [0, 1, 2, 3, 4, 5]
        self.assertIs(is_crowd(web, [0, 3]), False)
        self.assertIs(full_crowds(web, order).__class__, list)
        self.assertEqual({crowd.__class__ for crowd in full_crowds(web, order)}, {list})
        self.assertIs(coloured(web, order).__class__, list)
        self.assertIs(apart(web, order).__class__, tuple)
        self.assertEqual([part.__class__ for part in apart(web, order)], [list, list])
        self.assertEqual({crowd.__class__ for crowd in apart(web, order)[1]}, {list})


class Crowds(unittest.TestCase):

    def test_ordinary_lists(self):
        web = web_of(6, BAND)
        for points in ([0, 1, 2], [2, 0, 1], [3, 2, 1], [4, 3], [5], []):
            self.assertIs(is_crowd(web, points), True)
        for points in ([0, 1, 2, 3], [0, 3], [3, 1, 2, 0], [4, 5], [0, 1, 4], [5, 0]):
            self.assertIs(is_crowd(web, points), False)

    def test_lists_in_small_webs(self):
        for many in range(4):
            for ties in all_tie_lists(many):
                for size in range(many + 2):
                    for points in itertools.product(range(-1, many + 1), repeat=size):
                        told = is_crowd(web_of(many, ties), list(points))
                        self.assertIs(told, second.is_crowd(many, ties, list(points)))

    def test_few_points(self):
        for many, ties in few_points():
            web = web_of(many, ties)
            for size in range(many + 1):
                for points in itertools.combinations(range(many), size):
                    told = is_crowd(web, list(points))
                    self.assertIs(told, second.is_crowd(many, ties, list(points)))
                    self.assertIs(is_crowd(web, list(points[::-1])), told)

    def test_the_same_point_twice_and_points_that_are_not_there(self):
        for many in (1, 2, 4, 60):
            web = web_of(many, all_pairs(many))
            whole = list(range(many))
            self.assertIs(is_crowd(web, whole), True)
            for points in ([0, 0], whole + [0], whole + [many], whole + [-1], [many], [-1], [-many]):
                self.assertIs(is_crowd(web, points), False)
            for far in FAR:
                self.assertIs(is_crowd(web, [far]), False)
                self.assertIs(is_crowd(web, [0, -far]), False)
        self.assertIs(is_crowd(web_of(0, []), []), True)
        self.assertIs(is_crowd(web_of(0, []), [0]), False)
        self.assertIs(is_crowd(web_of(60, all_pairs(60)), [0, 1] * 50000), False)

    def test_one_missing_tie_among_sixty_points(self):
        whole = list(range(60))
        for tie in ((0, 1), (0, 59), (58, 59), (20, 40)):
            web = web_of(60, [pair for pair in all_pairs(60) if pair != tie])
            self.assertIs(is_crowd(web, whole), False)
            self.assertIs(is_crowd(web, whole[::-1]), False)
            for point in tie:
                self.assertIs(is_crowd(web, [other for other in whole if other != point]), True)


class FullCrowds(unittest.TestCase):

    def test_ordinary_orders(self):
        web = web_of(6, BAND)
        self.assertEqual(full_crowds(web, [0, 1, 2, 3, 4, 5]), [[0, 1, 2], [1, 2, 3], [3, 4], [5]])
        self.assertEqual(full_crowds(web, [5, 4, 3, 2, 1, 0]), [[5], [3, 4], [1, 2, 3], [0, 1, 2]])
        self.assertEqual(full_crowds(web, [4, 0, 5, 3, 2, 1]), [[3, 4], [0, 1, 2], [5], [1, 2, 3]])

    def test_few_points(self):
        found = 0
        for many, ties, orders in orders_without_a_gap():
            for order in orders:
                self.assertEqual(full_crowds(web_of(many, ties), order), second.full_crowds(many, ties, order))
                found += 1
        self.assertGreater(found, 300)

    def test_edges(self):
        self.assertEqual(full_crowds(web_of(0, []), []), [])
        self.assertEqual(full_crowds(web_of(1, []), [0]), [[0]])
        for order in some_orders(numbers(22), 60, 3):
            self.assertEqual(full_crowds(web_of(60, []), order), [[point] for point in order])
            self.assertEqual(full_crowds(web_of(60, all_pairs(60)), order), [list(range(60))])

    def test_sixty_points(self):
        star = great_tie_lists()[2]
        order = list(range(59, -1, -1))
        self.assertEqual(full_crowds(web_of(60, star), order), [[0, point] for point in order[:-1]])
        chain = [(point, point + 1) for point in range(59)]
        self.assertEqual(full_crowds(web_of(60, chain), order), [[point - 1, point] for point in order[:-1]])


class Colours(unittest.TestCase):

    def test_ordinary_orders(self):
        web = web_of(6, BAND)
        self.assertEqual(coloured(web, [0, 1, 2, 3, 4, 5]), [1, 2, 0, 1, 0, 0])
        self.assertEqual(coloured(web, [5, 4, 3, 2, 1, 0]), [0, 1, 2, 0, 1, 0])

    def test_few_points(self):
        for many, ties, orders in orders_without_a_gap():
            for order in orders:
                colours = coloured(web_of(many, ties), order)
                self.assertEqual(colours, second.coloured(ties, order))
                self.assertTrue(all(colours[one] != colours[other] for one, other in ties))
                self.assertEqual(sorted(set(colours)), list(range(second.greatest_crowd(many, ties))))

    def test_edges(self):
        self.assertEqual(coloured(web_of(0, []), []), [])
        self.assertEqual(coloured(web_of(1, []), [0]), [0])
        for order in some_orders(numbers(23), 60, 3):
            self.assertEqual(coloured(web_of(60, []), order), [0] * 60)
            colours = coloured(web_of(60, all_pairs(60)), order)
            self.assertEqual([colours[point] for point in order], list(range(59, -1, -1)))

    def test_sixty_points(self):
        star = great_tie_lists()[2]
        self.assertEqual(coloured(web_of(60, star), list(range(59, -1, -1))), [0] + [1] * 59)
        self.assertEqual(coloured(web_of(60, star), list(range(1, 59)) + [0, 59]), [1] + [0] * 59)
        chain = [(point, point + 1) for point in range(59)]
        self.assertEqual(coloured(web_of(60, chain), list(range(60))), [1, 0] * 30)


class Apart(unittest.TestCase):

    def test_ordinary_orders(self):
        web = web_of(6, BAND)
        self.assertEqual(apart(web, [0, 1, 2, 3, 4, 5]), ([0, 3, 5], [[0, 1, 2], [3, 4], [5]]))
        self.assertEqual(apart(web, [5, 4, 3, 2, 1, 0]), ([5, 4, 2], [[5], [3, 4], [0, 1, 2]]))
        self.assertEqual(apart(web, [4, 0, 5, 3, 2, 1]), ([4, 0, 5], [[3, 4], [0, 1, 2], [5]]))

    def test_few_points(self):
        for many, ties, orders in orders_without_a_gap():
            most = second.most_apart(many, ties)
            self.assertEqual(second.fewest_crowds(many, ties) if orders else most, most)
            for order in orders:
                picked, crowds = apart(web_of(many, ties), order)
                self.assertEqual(picked, second.picked(ties, order))
                self.assertEqual((len(picked), len(crowds)), (most, most))
                self.assertEqual(sorted(set(sum(crowds, []))), list(range(many)))
                for point, crowd in zip(picked, crowds):
                    self.assertEqual(crowd, sorted([point] + second.behind(ties, order, point)))
                    self.assertTrue(second.is_crowd(many, ties, crowd))

    def test_edges(self):
        self.assertEqual(apart(web_of(0, []), []), ([], []))
        self.assertEqual(apart(web_of(1, []), [0]), ([0], [[0]]))
        for order in some_orders(numbers(24), 60, 3):
            self.assertEqual(apart(web_of(60, []), order), (order, [[point] for point in order]))
            self.assertEqual(apart(web_of(60, all_pairs(60)), order), (order[:1], [list(range(60))]))

    def test_sixty_points(self):
        star = great_tie_lists()[2]
        order = list(range(59, -1, -1))
        self.assertEqual(apart(web_of(60, star), order), (order[:-1], [[0, point] for point in order[:-1]]))
        chain = [(point, point + 1) for point in range(59)]
        pairs = [[point, point + 1] for point in range(0, 60, 2)]
        self.assertEqual(apart(web_of(60, chain), order[::-1]), (list(range(0, 60, 2)), pairs))


class Refusing(unittest.TestCase):

    def test_lists_that_are_no_orders(self):
        for many in (0, 1, 4, 60):
            for ties in ([], all_pairs(many)):
                for order in no_orders(many):
                    for action in BY_ORDER:
                        refused(self, "BadOrder", action, web_of(many, ties), order)

    def test_lists_that_are_no_orders_of_webs_with_a_ring(self):
        for order in no_orders(4):
            for action in BY_ORDER:
                refused(self, "BadOrder", action, web_of(4, SQUARE), order)

    def test_each_order_with_a_gap(self):
        row = numbers(25)
        for many, ties in few_points():
            web = web_of(many, ties)
            for order in some_orders(row, many, 3):
                for action in BY_ORDER:
                    if second.gap(ties, order) is None:
                        action(web, order)
                    else:
                        refused(self, "HasGap", action, web, order)

    def test_each_order_of_a_ring(self):
        for order in itertools.permutations(range(4)):
            for action in BY_ORDER:
                refused(self, "HasGap", action, web_of(4, SQUARE), list(order))

    def test_sixty_points(self):
        _, ring, star, _, whole = great_tie_lists()
        order = list(range(60))
        for action in BY_ORDER:
            refused(self, "HasGap", action, web_of(60, star), order)
            refused(self, "HasGap", action, web_of(60, whole[:-1]), order)
            refused(self, "HasGap", action, web_of(60, ring), mixed(numbers(26), order))


if __name__ == "__main__":
    unittest.main()
