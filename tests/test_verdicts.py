"""Points 16 and 17: judging a web, and whether a verdict holds."""

import itertools
import unittest

from shortring import verdicts
from shortring.verdicts import Verdict, holds, judged
from shortring.webs import web_of
from tests import second
from tests.helpers import FAR, all_pairs, all_tie_lists, few_points, great_tie_lists, no_orders, numbers, some_orders

SQUARE = [(0, 1), (0, 3), (1, 2), (2, 3)]

# Two crowds of three, 0 1 2 and 1 2 3, a tie 3-4, and 5 alone.
BAND = [(0, 1), (0, 2), (1, 2), (1, 3), (2, 3), (3, 4)]

VALUES = ("order", "ring", "crowd", "colours", "many")

LISTS = VALUES[:4]


def told(verdict):
    return [getattr(verdict, name) for name in VALUES]


class Interface(unittest.TestCase):

    def test_all_is_defined_in_its_file(self):
        for part in (Verdict, judged, holds):
            self.assertEqual(part.__module__, "shortring.verdicts")
        self.assertIn("Verdict", vars(verdicts))

    def test_names_of_the_arguments(self):
        verdict = Verdict(order=[0], ring=None, crowd=[0], colours=[0], many=1)
        self.assertEqual(told(verdict), [[0], None, [0], [0], 1])
        self.assertEqual(told(judged(web=web_of(1, []))), [[0], None, [0], [0], 1])
        self.assertIs(holds(web=web_of(1, []), verdict=verdict), True)

    def test_kinds_of_values(self):
        verdict = judged(web_of(6, BAND))
        self.assertIs(verdict.__class__, Verdict)
        self.assertEqual([value.__class__ for value in told(verdict)], [list, type(None), list, list, int])
        verdict = judged(web_of(4, SQUARE))
        self.assertIs(verdict.__class__, Verdict)
        self.assertEqual([value.__class__ for value in told(verdict)][:2], [type(None), list])
        self.assertIs(verdict.many.__class__, int)
        self.assertIs(holds(web_of(6, BAND), verdict), False)
        self.assertIs(holds(web_of(4, SQUARE), verdict), True)


class Judging(unittest.TestCase):

    def check(self, many, ties):
        web = web_of(many, ties)
        verdict = judged(web)
        if second.has_ring(many, ties):
            self.assertTrue(second.is_ring(many, ties, verdict.ring))
            self.assertEqual([verdict.order, verdict.crowd, verdict.colours, verdict.many], [None, None, None, 0])
        else:
            gone, left = second.taken(many, ties)
            self.assertEqual((verdict.order, left), (gone, []))
            self.assertIsNone(verdict.ring)
            self.assertTrue(second.is_crowd(many, ties, verdict.crowd))
            self.assertEqual(verdict.crowd, sorted(verdict.crowd))
            self.assertEqual(len(verdict.crowd), second.greatest_crowd(many, ties))
            self.assertEqual(verdict.colours, second.coloured(ties, gone))
            self.assertEqual(verdict.many, len(verdict.crowd))
        self.assertTrue(second.holds(many, ties, *told(verdict)))
        self.assertIs(holds(web, verdict), True)

    def test_ordinary_webs(self):
        verdict = judged(web_of(6, BAND))
        self.assertIn(verdict.crowd, ([0, 1, 2], [1, 2, 3]))
        self.assertEqual((verdict.order, verdict.ring), ([0, 1, 2, 3, 4, 5], None))
        self.assertEqual((verdict.colours, verdict.many), ([1, 2, 0, 1, 0, 0], 3))
        verdict = judged(web_of(4, SQUARE))
        self.assertTrue(second.is_ring(4, SQUARE, verdict.ring))
        self.assertEqual([verdict.order, verdict.crowd, verdict.colours, verdict.many], [None, None, None, 0])

    def test_every_web_of_up_to_five_points(self):
        for many in range(6):
            for ties in all_tie_lists(many):
                self.check(many, ties)

    def test_few_points(self):
        for many, ties in few_points():
            self.check(many, ties)

    def test_edges(self):
        self.assertEqual(told(judged(web_of(0, []))), [[], None, [], [], 0])
        self.assertEqual(told(judged(web_of(1, []))), [[0], None, [0], [0], 1])
        points = list(range(60))
        verdict = judged(web_of(60, []))
        self.assertEqual([verdict.order, verdict.ring, verdict.colours, verdict.many], [points, None, [0] * 60, 1])
        self.assertEqual(told(judged(web_of(60, all_pairs(60)))), [points, None, points, points[::-1], 60])

    def test_sixty_points(self):
        for ties in great_tie_lists():
            verdict = judged(web_of(60, ties))
            self.assertTrue(second.holds(60, ties, *told(verdict)))
            self.assertIs(holds(web_of(60, ties), verdict), True)
        empty, ring, star, even, whole = (judged(web_of(60, ties)) for ties in great_tie_lists())
        self.assertEqual(sorted(ring.ring), list(range(60)))
        self.assertEqual((star.many, even.many, whole.many), (2, 30, 60))
        self.assertEqual(even.colours, [(59 - point) // 2 for point in range(60)])


class Holding(unittest.TestCase):

    def check(self, many, ties, *values):
        # The lists are copied: what is checked is not to hang on their being shared.
        verdict = Verdict(*[list(value) if isinstance(value, list) else value for value in values])
        self.assertIs(holds(web_of(many, ties), verdict), second.holds(many, ties, *values), values)

    def test_every_small_verdict(self):
        for many in range(3):
            lists = [None] + [list(some) for size in range(many + 1)
                              for some in itertools.product(range(-1, many + 1), repeat=size)]
            lists.append([0] * (many + 1))
            for ties in all_tie_lists(many):
                for order, crowd, colours in itertools.product(lists, repeat=3):
                    for number in range(-1, many + 2):
                        self.check(many, ties, order, None, crowd, colours, number)
                    for ring in ([], [0, 1]):
                        self.check(many, ties, order, ring, crowd, colours, 0)

    def test_one_value_exchanged(self):
        row = numbers(31)
        for many, ties in few_points():
            verdict = judged(web_of(many, ties))
            self.check(many, ties, *told(verdict))
            for at, values in enumerate(self.exchanged(row, many, verdict)):
                for value in values:
                    others = told(verdict)
                    others[at] = value
                    self.check(many, ties, *others)

    def exchanged(self, row, many, verdict):
        """For each of the verdict's values some others."""
        whole = list(range(many))
        orders = [None, [], whole, whole[::-1]] + some_orders(row, many, 3)[:8] + no_orders(many)
        rings = [None, [], whole[:4], whole, [0, 1, 2, 0], [3, 2, 1, 0]]
        crowds = [None, [], whole, [0], [0, 0], [many], [-1], whole[:2], whole[-2:][::-1]]
        colours = [None, [], whole, [0] * many, [-1] * many, [0] * (many + 1), [0, 1] * many]
        if verdict.ring is None:
            crowds += [verdict.crowd[::-1], verdict.crowd[1:], verdict.crowd + verdict.crowd[:1]]
            # The same colours under other names hold as well.
            colours += [[verdict.many - 1 - colour for colour in verdict.colours]]
            colours += [[colour + 1 for colour in verdict.colours], verdict.colours[:-1], verdict.colours + [0]]
            for point in range(many):
                for colour in (-1, 0, verdict.many - 1, verdict.many, *FAR[-2:]):
                    colours.append(verdict.colours[:point] + [colour] + verdict.colours[point + 1:])
        else:
            rings += [verdict.ring[1:] + verdict.ring[:1], verdict.ring[::-1], verdict.ring[1:]]
            rings += [verdict.ring[:2][::-1] + verdict.ring[2:], verdict.ring + verdict.ring[:1]]
        return orders, rings, crowds, colours, list(range(-2, many + 2)) + list(FAR) + [-far for far in FAR]

    def test_verdicts_of_other_webs(self):
        webs = [(many, ties) for many, ties in few_points() if many in (3, 4)]
        made = [judged(web_of(many, ties)) for many, ties in webs]
        for many, ties in webs:
            for verdict in made:
                self.check(many, ties, *told(verdict))

    def test_no_points(self):
        web = web_of(0, [])
        self.assertIs(holds(web, Verdict([], None, [], [], 0)), True)
        self.assertIs(holds(web, Verdict([], None, [], [], 1)), False)
        self.assertIs(holds(web, Verdict(None, None, None, None, 0)), False)
        self.assertIs(holds(web, Verdict(None, [], None, None, 0)), False)

    def test_a_verdict_by_hand(self):
        web = web_of(6, BAND)
        self.assertIs(holds(web, Verdict([5, 4, 3, 2, 1, 0], None, [2, 3, 1], [2, 1, 0, 2, 1, 2], 3)), True)
        self.assertIs(holds(web, Verdict([5, 4, 3, 2, 1, 0], None, [2, 3, 1], [2, 1, 0, 2, 2, 2], 3)), False)
        self.assertIs(holds(web, Verdict([5, 4, 3, 2, 1, 0], None, [2, 3, 1], [2, 1, 0, 3, 1, 2], 3)), False)
        self.assertIs(holds(web, Verdict([5, 4, 3, 2, 1, 0], None, [2, 3], [1, 0, 0, 1, 0, 0], 2)), False)
        self.assertIs(holds(web, Verdict([3, 5, 4, 2, 1, 0], None, [2, 3, 1], [2, 1, 0, 2, 1, 2], 3)), False)

    def test_rings_by_hand(self):
        web = web_of(4, SQUARE)
        for ring in ([0, 1, 2, 3], [2, 1, 0, 3]):
            self.assertIs(holds(web, Verdict(None, ring, None, None, 0)), True)
            self.assertIs(holds(web, Verdict(None, ring, None, None, 4)), False)
            self.assertIs(holds(web, Verdict(None, ring, None, None, -1)), False)
            self.assertIs(holds(web, Verdict([], ring, None, None, 0)), False)
            self.assertIs(holds(web, Verdict(None, ring, [], None, 0)), False)
            self.assertIs(holds(web, Verdict(None, ring, None, [], 0)), False)
            self.assertIs(holds(web_of(4, SQUARE + [(0, 2)]), Verdict(None, ring, None, None, 0)), False)
        for ring in ([], [0, 1, 2], [0, 2, 1, 3], [0, 1, 2, 4], [0, 1, 2, -1], [0, 1, 2, 3, 0]):
            self.assertIs(holds(web, Verdict(None, ring, None, None, 0)), False)

    def test_both_kinds_at_once(self):
        ties = [(tie[0] + 1, tie[1] + 1) for tie in SQUARE]
        for order in ([0, 1, 2, 3, 4], None):
            for crowd, colours, many in (([1, 2], [0, 0, 1, 0, 1], 2), ([1, 2], [0, 0, 1, 0, 1], 0), (None, None, 2)):
                self.assertIs(holds(web_of(5, ties), Verdict(order, [1, 2, 3, 4], crowd, colours, many)), False)
        self.assertIs(holds(web_of(4, []), Verdict([0, 1, 2, 3], [0, 1, 2, 3], [0], [0] * 4, 1)), False)


class Keeping(unittest.TestCase):

    def test_lists_handed_in_stay_and_are_not_kept(self):
        lists = [[0, 1, 2], [3, 4], [5], [6, 7]]
        verdict = Verdict(*lists, 9)
        for name, some in zip(LISTS, lists):
            before = list(some)
            self.assertEqual(getattr(verdict, name), before)
            self.assertIsNot(getattr(verdict, name), some)
            some.append(8)
            self.assertEqual(getattr(verdict, name), before)
            some.clear()
            self.assertEqual(getattr(verdict, name), before)
        self.assertEqual(verdict.many, 9)

    def test_one_list_handed_in_several_times(self):
        some = [0]
        verdict = Verdict(some, None, some, some, 1)
        verdict.order.append(1)
        self.assertEqual(told(verdict), [[0], None, [0], [0], 1])
        self.assertIs(holds(web_of(1, []), verdict), True)

    def test_a_verdict_is_not_changed_by_its_told_lists(self):
        for many, ties in ((6, BAND), (4, SQUARE), (0, []), (60, all_pairs(60))):
            web = web_of(many, ties)
            verdict = judged(web)
            before = told(verdict)
            for name in LISTS:
                some = getattr(verdict, name)
                if some is not None:
                    some.append(0)
                    self.assertEqual(told(verdict), before)
                    some.clear()
                    self.assertEqual(told(verdict), before)
            self.assertIs(holds(web, verdict), True)
            self.assertEqual(told(judged(web)), before)

    def test_its_lists_are_not_put_in_place_of_others(self):
        verdict = judged(web_of(6, BAND))
        before = told(verdict)
        for name in LISTS:
            with self.assertRaises(AttributeError):
                setattr(verdict, name, [])
        self.assertEqual(told(verdict), before)

    def test_holding_changes_nothing(self):
        for many, ties in ((6, BAND), (4, SQUARE)):
            by_order = [[5, 4, 3, 2, 1, 0], None, [2, 3, 1], [2, 1, 0, 2, 1, 2], 3]
            for values in (by_order, [None, [2, 1, 0, 3], None, None, 0]):
                verdict = Verdict(*values)
                for _ in range(2):
                    self.assertIs(holds(web_of(many, ties), verdict), second.holds(many, ties, *values))
                    self.assertEqual(told(verdict), values)


if __name__ == "__main__":
    unittest.main()
