"""Points 8, 9 and 10: rings, and ways past shut points."""

import itertools
import unittest

from shortring.rings import is_ring, long_ring, way
from shortring.webs import web_of
from tests import second
from tests.helpers import FAR, all_pairs, all_tie_lists, few_points, great_tie_lists, mixed, numbers, refused

SQUARE = [(0, 1), (0, 3), (1, 2), (2, 3)]


def ring_ties(points):
    """The ties of a ring of these points, as they stand."""
    return [(min(pair), max(pair)) for pair in zip(points, points[1:] + points[:1])]


def turns(points):
    """The same ring from each of its points on, both ways round."""
    for at in range(len(points)):
        turned = points[at:] + points[:at]
        yield turned
        yield turned[::-1]


class Interface(unittest.TestCase):

    def test_all_is_defined_in_its_file(self):
        for action in (way, is_ring, long_ring):
            self.assertEqual(action.__module__, "shortring.rings")

    def test_names_of_the_arguments(self):
        web = web_of(4, SQUARE)
        self.assertEqual(way(web=web, start=0, goal=2, shut=[3]), [0, 1, 2])
        self.assertIs(is_ring(web=web, points=[0, 1, 2, 3]), True)
        self.assertEqual(len(long_ring(web=web)), 4)

    def test_kinds_of_values(self):
        web = web_of(4, SQUARE)
        self.assertIs(way(web, 0, 1, []).__class__, list)
        self.assertIs(is_ring(web, [0, 1]), False)
        self.assertIs(long_ring(web).__class__, list)
        self.assertIsNone(long_ring(web_of(4, [])))


class Ways(unittest.TestCase):

    def check(self, many, ties, start, goal, shut):
        told = way(web_of(many, ties), start, goal, shut)
        size = second.steps(many, ties, start, goal, shut)
        if size is None:
            self.assertIsNone(told)
        else:
            self.assertEqual(len(told), size + 1)
            self.assertTrue(second.is_way(many, ties, told, start, goal, shut), told)

    def test_ordinary_ways(self):
        web = web_of(6, [(0, 1), (1, 2), (2, 3), (0, 4), (3, 4)])
        self.assertEqual(way(web, 0, 3, []), [0, 4, 3])
        self.assertEqual(way(web, 3, 0, []), [3, 4, 0])
        self.assertEqual(way(web, 0, 3, [4]), [0, 1, 2, 3])
        self.assertEqual(way(web, 0, 1, [2, 3, 4]), [0, 1])
        self.assertIsNone(way(web, 0, 3, [4, 1]))
        self.assertIsNone(way(web, 0, 5, []))

    def test_every_web_of_four_points(self):
        for ties in all_tie_lists(4):
            for start, goal in itertools.product(range(4), repeat=2):
                for shut in ([], [0], [1], [2], [3], [0, 2], [3, 1], [1, 2], [0, 1, 2, 3]):
                    self.check(4, ties, start, goal, shut)

    def test_few_points(self):
        row = numbers(11)
        for many, ties in few_points():
            for start, goal in itertools.product(range(many), repeat=2):
                self.check(many, ties, start, goal, [])
                self.check(many, ties, start, goal, mixed(row, range(many))[:next(row) % many])

    def test_shut_ends(self):
        web = web_of(4, SQUARE)
        for shut in ([0], [2], [0, 2], [2, 2, 9], [1, 0], [0, 1, 2, 3]):
            self.assertIsNone(way(web, 0, 2, shut))
        self.assertIsNone(way(web, 0, 1, [1]))
        self.assertIsNone(way(web, 0, 1, [0]))

    def test_from_a_point_to_itself(self):
        for many, ties in ((1, []), (4, SQUARE), (60, all_pairs(60))):
            for point in range(many):
                others = [other for other in range(many) if other != point]
                for shut in ([], others, [-1, many], others + others):
                    self.assertEqual(way(web_of(many, ties), point, point, shut), [point])
                self.assertIsNone(way(web_of(many, ties), point, point, [point]))
                self.assertIsNone(way(web_of(many, ties), point, point, others + [point]))

    def test_shut_ones_that_are_no_points_shut_nothing(self):
        web = web_of(4, SQUARE)
        far = [*FAR] + [-point for point in FAR]
        for none in ([-1], [-2, -3, -4], [4, 5], [60, -60, 4, 4], far):
            self.assertIn(way(web, 0, 2, none), ([0, 1, 2], [0, 3, 2]))
            self.assertEqual(way(web, 0, 2, none + [3]), [0, 1, 2])
            self.assertEqual(way(web, 0, 2, [1] + none), [0, 3, 2])
            self.assertIsNone(way(web, 0, 2, [1] + none + [3]))
        self.assertEqual(way(web_of(1, []), 0, 0, [-1, 1]), [0])

    def test_very_many_shut_ones(self):
        web = web_of(60, all_pairs(60)[1:])
        self.assertEqual(way(web, 0, 1, list(range(3, 20000)) * 3), [0, 2, 1])
        self.assertIsNone(way(web, 0, 1, list(range(2, 20000)) * 3))

    def test_sixty_points(self):
        empty, ring, star, even, whole = great_tie_lists()
        self.assertIsNone(way(web_of(60, empty), 0, 59, []))
        self.assertEqual(way(web_of(60, ring), 0, 59, []), [0, 59])
        self.assertEqual(way(web_of(60, ring), 1, 58, [0]), list(range(1, 59)))
        self.assertEqual(way(web_of(60, ring), 0, 30, [40]), list(range(31)))
        self.assertEqual(way(web_of(60, star), 7, 59, []), [7, 0, 59])
        self.assertIsNone(way(web_of(60, star), 7, 59, [0]))
        self.assertIsNone(way(web_of(60, even), 0, 59, []))
        self.assertEqual(way(web_of(60, even), 0, 58, []), [0, 58])
        self.assertEqual(way(web_of(60, whole), 59, 0, list(range(1, 59))), [59, 0])

    def test_points_that_are_not_there(self):
        for many in (0, 1, 4, 60):
            web = web_of(many, all_pairs(many))
            for point in (many, many + 1, -1, -many - 1, *FAR):
                refused(self, "NoPoint", way, web, point, point, [])
                for there in range(min(many, 2)):
                    for shut in ([], [there], [point], [point, there]):
                        refused(self, "NoPoint", way, web, there, point, shut)
                        refused(self, "NoPoint", way, web, point, there, shut)
        refused(self, "NoPoint", way, web_of(4, SQUARE), -4, 1, [])


class Rings(unittest.TestCase):

    def check(self, many, ties, points):
        self.assertIs(is_ring(web_of(many, ties), points), second.is_ring(many, ties, points), points)

    def test_ordinary_rings(self):
        for points in ([0, 1, 2, 3], [5, 2, 0, 3, 7], [7, 1, 6, 0, 2, 5, 4, 3]):
            web = web_of(8, ring_ties(points))
            for turned in turns(points):
                self.assertIs(is_ring(web, turned), True)
                self.assertIs(is_ring(web, turned[1:]), False)
                self.assertIs(is_ring(web, turned + turned[:1]), False)
                self.assertIs(is_ring(web, turned + turned), False)
                self.assertIs(is_ring(web, turned[1::-1] + turned[2:]), False)

    def test_three_points_and_fewer_are_none(self):
        web = web_of(4, all_pairs(4))
        for points in ([], [0], [0, 1], [0, 1, 0, 1], [0, 1, 2], [2, 1, 0]):
            self.assertIs(is_ring(web, points), False)

    def test_one_tie_more_across_or_one_less(self):
        for many in (4, 5, 6, 7, 8):
            points = list(range(many))
            ties = ring_ties(points)
            self.assertIs(is_ring(web_of(many, ties), points), True)
            for tie in ties:
                self.assertIs(is_ring(web_of(many, [other for other in ties if other != tie]), points), False)
            for tie in all_pairs(many):
                if tie not in ties:
                    self.assertIs(is_ring(web_of(many, ties + [tie]), points), False)

    def test_two_rings_at_once_are_none(self):
        ties = [(0, 1), (1, 2), (0, 2), (3, 4), (4, 5), (3, 5)]
        for points in itertools.permutations(range(6)):
            self.assertIs(is_ring(web_of(6, ties), list(points)), False)

    def test_lists_in_small_webs(self):
        for ties in ([], SQUARE, SQUARE + [(0, 2)], all_pairs(4), SQUARE[1:]):
            for size in range(6):
                for points in itertools.product(range(-1, 5), repeat=size):
                    self.check(4, ties, list(points))

    def test_every_web_of_five_points(self):
        for ties in all_tie_lists(5):
            for points in ([0, 1, 2, 3, 4], [0, 2, 4, 1, 3], [4, 1, 3, 0], [1, 2, 3, 4], [0, 1, 3, 2]):
                self.check(5, ties, points)

    def test_few_points(self):
        row = numbers(12)
        for many, ties in few_points():
            for size in range(4, many + 1):
                self.check(many, ties, mixed(row, range(many))[:size])

    def test_lists_that_are_none(self):
        web = web_of(4, SQUARE)
        for points in ([0, 1, 2, 4], [0, 1, 2, -1], [-4, -3, -2, -1], [0, 0, 1, 1], [0, 1, 2, 3, 3], [0, 2, 1, 3]):
            self.assertIs(is_ring(web, points), False)
        for far in FAR:
            self.assertIs(is_ring(web, [0, 1, 2, far]), False)
            self.assertIs(is_ring(web, [-far, 1, 2, 3]), False)
            self.assertIs(is_ring(web, [0, 1, 2, 3, far]), False)
        self.assertIs(is_ring(web, list(range(100000))), False)
        self.assertIs(is_ring(web, [0, 1, 2, 3] * 25000), False)

    def test_no_points_and_one_point(self):
        for many in (0, 1):
            for points in ([], [0], [0] * 4, [0, 1, 2, 3]):
                self.assertIs(is_ring(web_of(many, []), points), False)

    def test_sixty_points(self):
        points = list(range(60))
        for ties in great_tie_lists():
            self.assertIs(is_ring(web_of(60, ties), points), ties == sorted(ring_ties(points)))
        for turned in turns(points):
            self.assertIs(is_ring(web_of(60, ring_ties(points)), turned), True)


class LongRings(unittest.TestCase):

    def check(self, many, ties):
        told = long_ring(web_of(many, ties))
        if second.has_ring(many, ties):
            self.assertTrue(second.is_ring(many, ties, told), told)
            self.assertIs(is_ring(web_of(many, ties), told), True)
        else:
            self.assertIsNone(told)

    def test_ordinary_webs(self):
        self.assertIn(long_ring(web_of(4, SQUARE)), list(turns([0, 1, 2, 3])))
        self.assertIsNone(long_ring(web_of(4, SQUARE + [(0, 2)])))
        self.assertIn(long_ring(web_of(8, ring_ties([5, 2, 0, 3, 7]))), list(turns([5, 2, 0, 3, 7])))

    def test_every_web_of_up_to_five_points(self):
        for many in range(6):
            for ties in all_tie_lists(many):
                self.check(many, ties)

    def test_few_points(self):
        for many, ties in few_points():
            self.check(many, ties)

    def test_one_ring_of_each_size_with_all_else_tied_to_it(self):
        for many in (4, 5, 6, 7, 8):
            for size in range(4, many + 1):
                ring = list(range(many - size, many))
                ties = ring_ties(ring) + [pair for pair in all_pairs(many) if pair[0] < many - size]
                self.assertIn(long_ring(web_of(many, ties)), list(turns(ring)))

    def test_points_that_are_left_and_lie_on_no_ring(self):
        # A chain from one square to another: 0 to 4 lie on no ring, but none can go.
        ties = [(point, point + 1) for point in range(4)]
        ties += ring_ties([0, 5, 6, 7]) + ring_ties([4, 8, 9, 10])
        ring = long_ring(web_of(11, ties))
        self.assertIn(ring, list(turns([0, 5, 6, 7])) + list(turns([4, 8, 9, 10])))
        ties = [(0, 1), (0, 4)] + ring_ties([1, 2, 3, 5]) + ring_ties([4, 6, 7, 8])
        ring = long_ring(web_of(9, ties))
        self.assertIn(ring, list(turns([1, 2, 3, 5])) + list(turns([4, 6, 7, 8])))

    def test_sixty_points(self):
        empty, ring, star, even, whole = great_tie_lists()
        for ties in (empty, star, even, whole, whole[:-1], ring[:1] + ring[2:]):
            self.assertIsNone(long_ring(web_of(60, ties)))
        self.assertIn(long_ring(web_of(60, ring)), list(turns(list(range(60)))))
        across = ring + [(0, 30)]
        told = long_ring(web_of(60, across))
        self.assertIn(told, list(turns(list(range(31)))) + list(turns([0] + list(range(30, 60)))))
        fan = sorted(set(ring + star) - {(0, 30)})
        self.assertIn(long_ring(web_of(60, fan)), list(turns([0, 29, 30, 31])))


if __name__ == "__main__":
    unittest.main()
