"""Points 1, 2 and 3: making a web, and what a web tells."""

import unittest

from shortring import webs
from shortring.webs import MOST, Web, web_of
from tests.helpers import FAR, all_pairs, all_tie_lists, great_tie_lists, refused, some_webs


def turned(ties):
    return [(other, one) for one, other in ties]


class Interface(unittest.TestCase):

    def test_most(self):
        self.assertEqual(MOST, 60)
        self.assertIs(MOST.__class__, int)

    def test_all_is_defined_in_its_file(self):
        self.assertEqual(web_of.__module__, "shortring.webs")
        self.assertEqual(Web.__module__, "shortring.webs")
        for name in ("beside", "tied", "ties"):
            self.assertIn(name, vars(webs.Web))

    def test_names_of_the_arguments(self):
        web = web_of(many=3, ties=[(0, 2)])
        self.assertEqual(web.beside(point=0), [2])
        self.assertIs(web.tied(one=0, other=2), True)

    def test_kinds_of_values(self):
        web = web_of(3, [(0, 2), (2, 1)])
        self.assertIs(web.__class__, Web)
        self.assertIs(web.many.__class__, int)
        self.assertIs(web.beside(2).__class__, list)
        self.assertIs(web.ties().__class__, list)
        for tie in web.ties():
            self.assertIs(tie.__class__, tuple)
        self.assertIs(web.tied(0, 2), True)
        self.assertIs(web.tied(0, 1), False)


class Telling(unittest.TestCase):

    def check(self, web, many, ties):
        """All that the web tells, against the ties that it has to have, rising."""
        self.assertEqual(web.many, many)
        self.assertEqual(web.ties(), ties)
        there = set(ties)
        for one in range(many):
            beside = [other for other in range(many) if (min(one, other), max(one, other)) in there]
            self.assertEqual(web.beside(one), beside)
            for other in range(many):
                self.assertIs(web.tied(one, other), other in beside)

    def test_ordinary_web(self):
        web = web_of(4, [(2, 3), (3, 0), (0, 1)])
        self.assertEqual(web.many, 4)
        self.assertEqual(web.ties(), [(0, 1), (0, 3), (2, 3)])
        self.assertEqual([web.beside(point) for point in range(4)], [[1, 3], [0], [3], [0, 2]])
        self.assertIs(web.tied(3, 0), True)
        self.assertIs(web.tied(0, 3), True)
        self.assertIs(web.tied(1, 3), False)

    def test_every_web_of_few_points(self):
        for many in range(5):
            for ties in all_tie_lists(many):
                self.check(web_of(many, ties), many, ties)

    def test_ties_either_way_round(self):
        for ties in all_tie_lists(4):
            self.check(web_of(4, turned(ties)), 4, ties)
            self.check(web_of(4, [tie[::-1] if at % 2 else tie for at, tie in enumerate(ties)]), 4, ties)

    def test_ties_in_any_order(self):
        for ties in all_tie_lists(4):
            self.check(web_of(4, ties[::-1]), 4, ties)
            self.check(web_of(4, ties[1::2] + ties[::2]), 4, ties)

    def test_ties_told_several_times(self):
        for ties in all_tie_lists(4):
            self.check(web_of(4, ties + ties), 4, ties)
            self.check(web_of(4, ties + turned(ties)), 4, ties)
            self.check(web_of(4, ties + ties[:1] * 5), 4, ties)
        self.check(web_of(2, [(0, 1), (1, 0)] * 2000), 2, [(0, 1)])

    def test_no_points(self):
        self.check(web_of(0, []), 0, [])

    def test_one_point(self):
        self.check(web_of(1, []), 1, [])
        self.assertIs(web_of(1, []).tied(0, 0), False)

    def test_sixty_points(self):
        for ties in great_tie_lists():
            self.check(web_of(60, ties), 60, ties)
            self.check(web_of(60, turned(ties[::-1]) + ties), 60, ties)

    def test_a_point_is_never_tied_to_itself(self):
        for web, _ in some_webs():
            for point in range(web.many):
                self.assertIs(web.tied(point, point), False)
                self.assertNotIn(point, web.beside(point))


class Refusing(unittest.TestCase):

    def test_number_of_points(self):
        for many in (-1, -2, 61, 62):
            refused(self, "BadWeb", web_of, many, [])
            refused(self, "BadWeb", web_of, many, [(0, 1)])
        for far in FAR:
            refused(self, "BadWeb", web_of, far, [])
            refused(self, "BadWeb", web_of, -far, [])
            refused(self, "BadWeb", web_of, far, [(0, 1)])

    def test_bad_ties_at_every_place(self):
        good = [(0, 1), (3, 2), (1, 3), (0, 1)]
        bad = [(0, 4), (4, 0), (3, 5), (5, 3), (-1, 0), (0, -1), (-1, 3), (2, -4), (-2, -1), (4, 5)]
        bad += [(point, point) for point in range(-1, 6)]
        for tie in bad:
            for at in range(len(good) + 1):
                refused(self, "BadWeb", web_of, 4, good[:at] + [tie] + good[at:])
            refused(self, "BadWeb", web_of, 4, [tie])
            refused(self, "BadWeb", web_of, 4, [tie, tie])

    def test_points_far_beyond(self):
        for far in FAR:
            for tie in ((0, far), (far, 0), (0, -far), (-far, 0), (far, far), (-far, far)):
                refused(self, "BadWeb", web_of, 60, [tie])
                refused(self, "BadWeb", web_of, 60, [(0, 1), tie, (1, 2)])

    def test_ties_of_few_or_many_points(self):
        for tie in ((0, 0), (0, 1), (1, 0), (-1, 0), (0, -1), (-1, -1)):
            refused(self, "BadWeb", web_of, 0, [tie])
            refused(self, "BadWeb", web_of, 1, [tie])
        for tie in ((59, 60), (60, 59), (60, 60), (59, 59), (-1, 59), (-60, 0)):
            refused(self, "BadWeb", web_of, 60, [tie])
            refused(self, "BadWeb", web_of, 60, all_pairs(60) + [tie])

    def test_points_that_are_not_there(self):
        for web, _ in some_webs():
            for point in (-1, -2, web.many, web.many + 1, -web.many - 1):
                self.check_missing(web, point)
            for far in FAR:
                self.check_missing(web, far)
                self.check_missing(web, -far)

    def check_missing(self, web, point):
        refused(self, "NoPoint", web.beside, point)
        refused(self, "NoPoint", web.tied, point, point)
        for there in range(min(web.many, 4)):
            refused(self, "NoPoint", web.tied, there, point)
            refused(self, "NoPoint", web.tied, point, there)

    def test_a_refusal_changes_nothing(self):
        web = web_of(4, [(0, 1), (0, 3), (2, 3)])
        refused(self, "NoPoint", web.beside, 4)
        refused(self, "NoPoint", web.tied, 0, -1)
        self.assertEqual(web.many, 4)
        self.assertEqual(web.ties(), [(0, 1), (0, 3), (2, 3)])


class KeepingApart(unittest.TestCase):

    def test_the_list_handed_in_stays(self):
        ties = [(2, 3), (3, 0), (0, 1), (1, 0)]
        web = web_of(4, ties)
        web.ties()
        web.beside(0)
        self.assertEqual(ties, [(2, 3), (3, 0), (0, 1), (1, 0)])

    def test_a_refused_list_stays(self):
        ties = [(2, 3), (3, 0), (0, 4), (1, 0)]
        refused(self, "BadWeb", web_of, 4, ties)
        self.assertEqual(ties, [(2, 3), (3, 0), (0, 4), (1, 0)])

    def test_changing_the_list_handed_in_changes_no_web(self):
        ties = [(0, 1), (0, 3), (2, 3)]
        web = web_of(4, ties)
        ties.append((1, 2))
        ties[0] = (1, 3)
        self.assertEqual(web.ties(), [(0, 1), (0, 3), (2, 3)])
        ties.clear()
        self.assertEqual(web.ties(), [(0, 1), (0, 3), (2, 3)])
        self.assertEqual([web.beside(point) for point in range(4)], [[1, 3], [0], [3], [0, 2]])

    def test_changing_a_told_list_changes_nothing_told_later(self):
        web = web_of(4, [(0, 1), (0, 3), (2, 3)])
        for _ in range(3):
            web.beside(0).append(2)
            web.beside(0).clear()
            web.ties().append((1, 2))
            web.ties().clear()
            self.assertEqual(web.beside(0), [1, 3])
            self.assertEqual(web.ties(), [(0, 1), (0, 3), (2, 3)])
            self.assertIs(web.tied(0, 2), False)
            self.assertIs(web.tied(0, 1), True)

    def test_asking_again_changes_no_list_told_ahead(self):
        web = web_of(4, [(0, 1), (0, 3), (2, 3)])
        beside, ties = web.beside(0), web.ties()
        self.assertEqual(web.beside(3), [0, 2])
        again, ties_again = web.beside(0), web.ties()
        self.assertIsNot(again, beside)
        self.assertIsNot(ties_again, ties)
        again.clear()
        ties_again.clear()
        web.tied(0, 1)
        self.assertEqual(beside, [1, 3])
        self.assertEqual(ties, [(0, 1), (0, 3), (2, 3)])

    def test_one_web_does_not_change_another(self):
        ties = [(0, 1)]
        first = web_of(3, ties)
        ties.append((1, 2))
        second = web_of(3, ties)
        self.assertEqual(first.ties(), [(0, 1)])
        self.assertEqual(second.ties(), [(0, 1), (1, 2)])
        self.assertEqual(web_of(3, []).ties(), [])


if __name__ == "__main__":
    unittest.main()
