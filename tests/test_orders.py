"""Points 5, 6, 7 and 15: orders, what stands behind, gaps, taking away and filling."""

import itertools
import unittest

from shortring.orders import behind, filled, gap, is_order, taken
from shortring.webs import web_of
from tests import second
from tests.helpers import (
    FAR, all_pairs, all_tie_lists, few_points, great_tie_lists, no_orders, numbers, refused, some_orders,
)

SQUARE = [(0, 1), (0, 3), (1, 2), (2, 3)]


class Interface(unittest.TestCase):

    def test_all_is_defined_in_its_file(self):
        for action in (is_order, behind, gap, taken, filled):
            self.assertEqual(action.__module__, "shortring.orders")

    def test_names_of_the_arguments(self):
        web = web_of(4, SQUARE)
        order = [0, 1, 2, 3]
        self.assertIs(is_order(web=web, order=order), True)
        self.assertEqual(behind(web=web, order=order, point=0), [1, 3])
        self.assertEqual(gap(web=web, order=order), (0, 1, 3))
        self.assertEqual(taken(web=web), ([], [0, 1, 2, 3]))
        self.assertEqual(filled(web=web, order=order), [(1, 3)])

    def test_kinds_of_values(self):
        web = web_of(4, SQUARE)
        order = [0, 1, 2, 3]
        self.assertIs(is_order(web, order[1:]), False)
        self.assertIs(behind(web, order, 1).__class__, list)
        self.assertIs(gap(web, order).__class__, tuple)
        self.assertIsNone(gap(web_of(4, []), order))
        self.assertIs(taken(web).__class__, tuple)
        self.assertEqual([part.__class__ for part in taken(web)], [list, list])
        self.assertIs(filled(web, order).__class__, list)
        self.assertEqual([tie.__class__ for tie in filled(web, order)], [tuple])


class Orders(unittest.TestCase):

    def test_every_short_list(self):
        for many in range(4):
            for ties in ([], all_pairs(many)):
                self.check_lists(web_of(many, ties))

    def check_lists(self, web):
        for size in range(web.many + 2):
            for some in itertools.product(range(-1, web.many + 2), repeat=size):
                self.assertIs(is_order(web, list(some)), second.is_order(web.many, list(some)), some)

    def test_orders_of_many_points(self):
        row = numbers(2)
        for many in (5, 8, 30, 60):
            for order in some_orders(row, many, 5):
                self.assertIs(is_order(web_of(many, []), order), True)
                self.assertIs(is_order(web_of(many - 1, []), order), False)
                if many < 60:
                    self.assertIs(is_order(web_of(many + 1, []), order), False)

    def test_no_points_and_one_point(self):
        self.assertIs(is_order(web_of(0, []), []), True)
        self.assertIs(is_order(web_of(0, []), [0]), False)
        self.assertIs(is_order(web_of(1, []), [0]), True)
        for order in ([], [1], [-1], [0, 0], [0, 1]):
            self.assertIs(is_order(web_of(1, []), order), False)

    def test_lists_that_are_no_orders(self):
        for many in (0, 1, 2, 5, 60):
            for order in no_orders(many):
                self.assertIs(is_order(web_of(many, []), order), False)


class Behind(unittest.TestCase):

    def test_ordinary_order(self):
        web = web_of(4, SQUARE)
        order = [3, 1, 2, 0]
        self.assertEqual(behind(web, order, 3), [2, 0])
        self.assertEqual(behind(web, order, 1), [2, 0])
        self.assertEqual(behind(web, order, 2), [])
        self.assertEqual(behind(web, order, 0), [])

    def test_as_they_stand_and_not_rising(self):
        web = web_of(60, all_pairs(60))
        order = list(range(59, -1, -1))
        for point in range(60):
            self.assertEqual(behind(web, order, point), list(range(point - 1, -1, -1)))

    def test_few_points(self):
        row = numbers(3)
        for many, ties in few_points():
            web = web_of(many, ties)
            for order in some_orders(row, many, 2):
                for point in range(many):
                    self.assertEqual(behind(web, order, point), second.behind(ties, order, point))

    def test_lists_that_are_no_orders(self):
        for many in (0, 1, 4, 60):
            web = web_of(many, all_pairs(many))
            for order in no_orders(many):
                for point in (0, many - 1, many, -1, *FAR):
                    refused(self, "BadOrder", behind, web, order, point)

    def test_points_that_are_not_there(self):
        for many in (0, 1, 4, 60):
            web = web_of(many, all_pairs(many))
            order = list(range(many))
            for point in (many, many + 1, -1, -many - 1):
                refused(self, "NoPoint", behind, web, order, point)
            for far in FAR:
                refused(self, "NoPoint", behind, web, order, far)
                refused(self, "NoPoint", behind, web, order, -far)

    def test_the_list_is_refused_ahead_of_the_point(self):
        web = web_of(3, [(0, 1)])
        refused(self, "BadOrder", behind, web, [0, 1, 3], 3)
        refused(self, "BadOrder", behind, web, [0, 1], 2)
        refused(self, "BadOrder", behind, web, [], -1)
        refused(self, "NoPoint", behind, web, [0, 1, 2], 3)


class Gaps(unittest.TestCase):

    def test_ordinary_gap(self):
        self.assertEqual(gap(web_of(4, SQUARE), [0, 1, 2, 3]), (0, 1, 3))
        self.assertEqual(gap(web_of(4, SQUARE), [2, 3, 1, 0]), (2, 3, 1))
        self.assertIsNone(gap(web_of(4, SQUARE + [(1, 3)]), [0, 1, 2, 3]))

    def test_the_first_point_with_a_gap_is_told(self):
        ties = [(0, 1), (2, 3), (2, 4), (5, 6), (5, 7)]
        self.assertEqual(gap(web_of(8, ties), list(range(8))), (2, 3, 4))
        self.assertEqual(gap(web_of(8, ties), list(range(7, -1, -1))), None)
        self.assertEqual(gap(web_of(8, ties), [5, 7, 6, 2, 3, 4, 0, 1]), (5, 7, 6))

    def test_the_first_pair_behind_is_told(self):
        star = [(0, point) for point in range(1, 6)]
        self.assertEqual(gap(web_of(6, star), [0, 5, 4, 3, 2, 1]), (0, 5, 4))
        # 1 is tied to all others behind 0; 2 is tied to 3 and 4, but not to 5.
        ties = star + [(1, 2), (1, 3), (1, 4), (1, 5), (2, 3), (2, 4)]
        self.assertEqual(gap(web_of(6, ties), [0, 1, 2, 3, 4, 5]), (0, 2, 5))
        self.assertEqual(gap(web_of(6, ties), [0, 1, 3, 2, 4, 5]), (0, 3, 4))
        self.assertEqual(gap(web_of(6, ties), [0, 1, 2, 4, 3, 5]), (0, 2, 5))
        self.assertEqual(gap(web_of(6, ties), [0, 5, 1, 2, 4, 3]), (0, 5, 2))

    def test_every_web_of_four_points(self):
        row = numbers(4)
        for ties in all_tie_lists(4):
            for order in some_orders(row, 4, 10):
                self.assertEqual(gap(web_of(4, ties), order), second.gap(ties, order))

    def test_few_points(self):
        row = numbers(5)
        gaps = 0
        for many, ties in few_points():
            web = web_of(many, ties)
            for order in some_orders(row, many, 3) + [sum(second.taken(many, ties), [])]:
                told = gap(web, order)
                self.assertEqual(told, second.gap(ties, order))
                gaps += told is not None
        self.assertGreater(gaps, 200)

    def test_webs_of_no_points_one_point_no_ties_and_all_ties(self):
        self.assertIsNone(gap(web_of(0, []), []))
        self.assertIsNone(gap(web_of(1, []), [0]))
        for order in some_orders(numbers(6), 60, 3):
            self.assertIsNone(gap(web_of(60, []), order))
            self.assertIsNone(gap(web_of(60, all_pairs(60)), order))

    def test_one_missing_tie_among_sixty_points(self):
        order = list(range(60))
        self.assertEqual(gap(web_of(60, all_pairs(60)[:-1]), order), (0, 58, 59))
        self.assertEqual(gap(web_of(60, all_pairs(60)[1:]), order), None)
        self.assertEqual(gap(web_of(60, all_pairs(60)[1:]), order[::-1]), (59, 1, 0))

    def test_lists_that_are_no_orders(self):
        for many in (0, 1, 4, 60):
            for ties in ([], all_pairs(many)):
                for order in no_orders(many):
                    refused(self, "BadOrder", gap, web_of(many, ties), order)


class TakingAway(unittest.TestCase):

    def check(self, many, ties):
        gone, left = taken(web_of(many, ties))
        self.assertEqual((gone, left), second.taken(many, ties))
        self.assertEqual(sorted(gone + left), list(range(many)))
        self.assertEqual(left, sorted(left))
        return gone, left

    def test_ordinary_webs(self):
        self.assertEqual(taken(web_of(4, SQUARE)), ([], [0, 1, 2, 3]))
        self.assertEqual(taken(web_of(4, SQUARE + [(1, 3)])), ([0, 1, 2, 3], []))
        # A chain hangs off a square, at 4.
        ties = [(4, 5), (5, 6), (6, 7), (4, 7), (4, 3), (3, 1), (1, 0)]
        self.assertEqual(taken(web_of(8, ties)), ([0, 1, 2, 3], [4, 5, 6, 7]))

    def test_the_least_one_goes_each_time(self):
        # 3 can go at the start, 0 not before it; then 0 is the least again.
        ties = [(0, 1), (0, 3), (1, 2), (1, 4)]
        self.assertEqual(taken(web_of(5, ties)), ([2, 3, 0, 1, 4], []))
        chain = [(point, point + 1) for point in range(5)]
        self.assertEqual(taken(web_of(6, chain)), ([0, 1, 2, 3, 4, 5], []))
        self.assertEqual(taken(web_of(6, [(0, point) for point in range(1, 6)])), ([1, 2, 3, 4, 0, 5], []))

    def test_every_web_of_five_points(self):
        for ties in all_tie_lists(5):
            gone, left = self.check(5, ties)
            self.assertIs(left != [], second.has_ring(5, ties))

    def test_few_points(self):
        for many, ties in few_points():
            gone, left = self.check(many, ties)
            self.assertIs(left != [], second.has_ring(many, ties))
            if not left:
                self.assertIsNone(second.gap(ties, gone))

    def test_no_points_and_one_point(self):
        self.assertEqual(taken(web_of(0, [])), ([], []))
        self.assertEqual(taken(web_of(1, [])), ([0], []))

    def test_sixty_points(self):
        points = list(range(60))
        empty, ring, star, even, whole = great_tie_lists()
        self.assertEqual(taken(web_of(60, empty)), (points, []))
        self.assertEqual(taken(web_of(60, ring)), ([], points))
        self.assertEqual(taken(web_of(60, star)), (points[1:59] + [0, 59], []))
        self.assertEqual(taken(web_of(60, even)), (points, []))
        self.assertEqual(taken(web_of(60, whole)), (points, []))


class Filling(unittest.TestCase):

    def check(self, many, ties, order):
        told = filled(web_of(many, ties), order)
        self.assertEqual(told, second.filled(many, ties, order))
        self.assertIsNone(second.gap(ties + told, order))
        self.assertIsNone(gap(web_of(many, ties + told), order))
        self.assertEqual(filled(web_of(many, ties + told), order), [])

    def test_ordinary_orders(self):
        self.assertEqual(filled(web_of(4, SQUARE), [0, 1, 2, 3]), [(1, 3)])
        self.assertEqual(filled(web_of(4, SQUARE), [3, 2, 1, 0]), [(0, 2)])
        self.assertEqual(filled(web_of(4, SQUARE + [(0, 2)]), [1, 3, 0, 2]), [])
        star = [(0, point) for point in range(1, 5)]
        self.assertEqual(filled(web_of(5, star), [0, 4, 2, 3, 1]), [(1, 2), (1, 3), (1, 4), (2, 3), (2, 4), (3, 4)])
        self.assertEqual(filled(web_of(5, star), [1, 2, 3, 4, 0]), [])

    def test_ties_put_in_ahead_count_too(self):
        ring = [(0, 1), (1, 2), (2, 3), (3, 4), (4, 5), (0, 5)]
        self.assertEqual(filled(web_of(6, ring), [0, 1, 2, 3, 4, 5]), [(1, 5), (2, 5), (3, 5)])
        self.assertEqual(filled(web_of(6, ring), [5, 4, 3, 2, 1, 0]), [(0, 2), (0, 3), (0, 4)])

    def test_every_web_of_four_points(self):
        row = numbers(7)
        for ties in all_tie_lists(4):
            for order in some_orders(row, 4, 6):
                self.check(4, ties, order)

    def test_few_points(self):
        row = numbers(8)
        for many, ties in few_points():
            for order in some_orders(row, many, 2):
                self.check(many, ties, order)

    def test_an_order_without_a_gap_needs_no_ties(self):
        for many, ties in few_points():
            gone, left = second.taken(many, ties)
            if not left:
                self.assertEqual(filled(web_of(many, ties), gone), [])

    def test_no_points_and_one_point(self):
        self.assertEqual(filled(web_of(0, []), []), [])
        self.assertEqual(filled(web_of(1, []), [0]), [])

    def test_sixty_points(self):
        order = list(range(60))
        empty, ring, star, even, whole = great_tie_lists()
        self.assertEqual(filled(web_of(60, empty), order), [])
        self.assertEqual(filled(web_of(60, ring), order), [(point, 59) for point in range(1, 58)])
        self.assertEqual(filled(web_of(60, star), order), [pair for pair in all_pairs(60) if pair[0] > 0])
        self.assertEqual(filled(web_of(60, star), order[::-1]), [])
        self.assertEqual(filled(web_of(60, even), order), [])
        self.assertEqual(filled(web_of(60, whole), order), [])

    def test_lists_that_are_no_orders(self):
        for many in (0, 1, 4, 60):
            for ties in ([], all_pairs(many)):
                for order in no_orders(many):
                    refused(self, "BadOrder", filled, web_of(many, ties), order)


if __name__ == "__main__":
    unittest.main()
