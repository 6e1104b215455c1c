"""Points 1 to 17 over the whole program: the parts fit together, share nothing, and are quick."""

import copy
import time
import unittest

from shortring.crowds import apart, coloured, full_crowds, is_crowd
from shortring.errors import BadOrder, HasGap
from shortring.notes import read, shown
from shortring.orders import behind, filled, gap, is_order, taken
from shortring.rings import is_ring, long_ring, way
from shortring.verdicts import Verdict, holds, judged
from shortring.webs import web_of
from tests import second
from tests.helpers import (
    all_pairs, few_points, great_tie_lists, mixed, no_orders, numbers, refused, ringless_ties, some_orders,
)


def told_by(verdict):
    return [verdict.order, verdict.ring, verdict.crowd, verdict.colours, verdict.many]


def or_refusal(action, *values):
    try:
        return action(*values)
    except (BadOrder, HasGap) as refusal:
        return refusal.__class__.__name__


def all_answers(web, order, shut):
    """What is told of the web, asked in every way; the lists are handed in as they are."""
    points = range(web.many)
    answers = [web.many, web.ties(), [web.beside(point) for point in points], shown(web)]
    answers += [[web.tied(one, other) for one in points for other in points]]
    answers += [is_order(web, order), is_ring(web, order), is_crowd(web, order), is_crowd(web, shut)]
    answers += [taken(web), long_ring(web), told_by(judged(web)), holds(web, judged(web))]
    answers += [[or_refusal(behind, web, order, point) for point in points]]
    answers += [or_refusal(action, web, order) for action in (gap, filled, full_crowds, coloured, apart)]
    answers += [[way(web, start, goal, shut) for start in points for goal in points]]
    answers += [holds(web, Verdict(order, None, shut, order, len(shut)))]
    answers += [holds(web, Verdict(None, order, None, None, 0))]
    return answers


def lists_within(value):
    """All lists in a told value, itself included."""
    if isinstance(value, (list, tuple)):
        inner = [some for part in value for some in lists_within(part)]
        return inner + ([value] if isinstance(value, list) else [])
    return []


def spoil(value):
    """All lists in a told value are changed."""
    for some in lists_within(value):
        some.reverse()
        some.append(-7)
        some[0] = 77
        del some[1:-1]


def asked_lists(row, many):
    """Pairs of an order, or what is none, and a list of shut points."""
    for order in some_orders(row, many, 2)[:3] + no_orders(many)[:4]:
        yield order, mixed(row, range(-1, many + 1))[:next(row) % 4]


class Fitting(unittest.TestCase):
    """All that is told of webs of up to eight points, against what the document says of it."""

    def test_few_points(self):
        row = numbers(41)
        for many, ties in few_points():
            self.check_web(many, ties)
            for order in some_orders(row, many, 1):
                self.check_filling(many, ties, order)

    def test_other_webs_of_eight_points(self):
        row = numbers(42)
        rings = 0
        for at in range(150):
            percent = 10 + next(row) % 85
            ties = [pair for pair in all_pairs(8) if next(row) % 100 < percent]
            if at % 3 == 0:
                ties = ringless_ties(row, 8, percent)
            rings += second.has_ring(8, ties)
            self.check_web(8, ties)
            self.check_filling(8, ties, mixed(row, range(8)))
        self.assertTrue(30 < rings < 90, rings)

    def check_web(self, many, ties):
        web = read(shown(web_of(many, ties)))
        gone, left = taken(web)
        ring = long_ring(web)
        verdict = judged(web)
        self.assertEqual((gone, left), second.taken(many, ties))
        self.assertIs(ring is None, left == [])
        self.assertIs(ring is None, not second.has_ring(many, ties))
        self.assertIs(verdict.ring is None, ring is None)
        self.assertIs(holds(web, verdict), True)
        self.assertTrue(second.holds(many, ties, *told_by(verdict)))
        if ring is None:
            self.assertEqual(verdict.order, gone)
            self.assertEqual(verdict.colours, coloured(web, gone))
            self.assertEqual(verdict.many, second.greatest_crowd(many, ties))
            self.check_order(web, many, ties, gone)
        else:
            self.assertTrue(second.is_ring(many, ties, ring))
            self.assertTrue(second.is_ring(many, ties, verdict.ring))

    def check_order(self, web, many, ties, order):
        """What is told by an order without a gap."""
        self.assertIsNone(gap(web, order))
        self.assertIsNone(second.gap(ties, order))
        crowds = full_crowds(web, order)
        colours = coloured(web, order)
        picked, holding = apart(web, order)
        self.assertEqual(crowds, second.full_crowds(many, ties, order))
        self.assertEqual(colours, second.coloured(ties, order))
        self.assertEqual(len(set(colours)), second.greatest_crowd(many, ties))
        self.assertEqual(len(set(colours)), max(map(len, crowds), default=0))
        self.assertEqual(picked, second.picked(ties, order))
        self.assertEqual(len(picked), second.most_apart(many, ties))
        self.assertEqual(len(holding), second.fewest_crowds(many, ties))
        self.assertTrue(all(is_crowd(web, crowd) for crowd in crowds + holding))
        self.assertEqual(sorted(set(sum(holding, []))), list(range(many)))
        for point, crowd in zip(picked, holding):
            self.assertEqual(crowd, sorted([point] + second.behind(ties, order, point)))

    def check_filling(self, many, ties, order):
        put = filled(web_of(many, ties), order)
        self.assertEqual(put, second.filled(many, ties, order))
        self.assertIs(put == [], second.gap(ties, order) is None)
        whole = sorted(ties + put)
        web = web_of(many, whole)
        self.assertEqual(web.ties(), whole)
        self.assertFalse(second.has_ring(many, whole))
        self.assertIsNone(long_ring(web))
        self.check_order(web, many, whole, order)


class KeepingApart(unittest.TestCase):

    def test_nothing_handed_in_is_changed(self):
        row = numbers(43)
        for many, ties in few_points():
            handed = list(ties)
            web = web_of(many, handed)
            for order, shut in asked_lists(row, many):
                before = copy.deepcopy((order, shut))
                all_answers(web, order, shut)
                self.assertEqual((order, shut), before)
            self.assertEqual(handed, ties)
            self.assertEqual((web.many, web.ties()), (many, ties))
            self.assertEqual([web.beside(point) for point in range(many)],
                             [second.behind(ties, [point] + list(range(many)), point) for point in range(many)])

    def test_changing_told_lists_changes_nothing_told_later(self):
        row = numbers(44)
        for many, ties in few_points():
            web = web_of(many, ties)
            for order, shut in asked_lists(row, many):
                first = all_answers(web, order, shut)
                kept = copy.deepcopy(first)
                again = all_answers(web, order, shut)
                self.assertEqual(again, kept)
                spoil(again)
                self.assertEqual(first, kept)
                spoil(first)
                self.assertEqual(all_answers(web, order, shut), kept)
                self.assertEqual(all_answers(web_of(many, ties), order, shut), kept)

    def test_no_list_is_told_twice(self):
        row = numbers(45)
        for many, ties in few_points():
            web = web_of(many, ties)
            for order, shut in asked_lists(row, many):
                lists = lists_within([all_answers(web, order, shut) for _ in range(2)]) + [order, shut]
                self.assertEqual(len({id(some) for some in lists}), len(lists))

    def test_changing_lists_handed_in_changes_nothing_told_ahead(self):
        row = numbers(46)
        for many, ties in few_points():
            handed = list(ties)
            web = web_of(many, handed)
            for order, shut in asked_lists(row, many):
                answers = all_answers(web, order, shut)
                kept = copy.deepcopy(answers)
                spoil([handed, order, shut])
                self.assertEqual(answers, kept)
                self.assertEqual(web.ties(), ties)

    def test_asked_again_it_is_answered_by_what_is_handed_in_then(self):
        row = numbers(47)
        order, shut = [], []
        for many, ties in few_points():
            web = web_of(many, ties)
            for new_order, new_shut in asked_lists(row, many):
                order[:], shut[:] = new_order, new_shut
                told = all_answers(web, order, shut)
                self.assertEqual(told, all_answers(web_of(many, ties), list(new_order), list(new_shut)))

    def test_webs_asked_in_turns(self):
        webs = [(many, ties, web_of(many, ties)) for many, ties in few_points() if many == 4]
        order = [2, 0, 3, 1]
        alone = [all_answers(web_of(many, ties), order, [1]) for many, ties, _ in webs]
        for _ in range(2):
            for (_, _, web), kept in zip(webs, alone):
                self.assertEqual(all_answers(web, order, [1]), kept)

    def test_refusals_change_nothing(self):
        for many, ties in ((4, [(0, 1), (0, 3), (1, 2), (2, 3)]), (4, [(0, 1)]), (1, [])):
            web = web_of(many, ties)
            whole = list(range(many))
            before = all_answers(web, whole, [0])
            for order in no_orders(many):
                handed = list(order)
                for action in (gap, filled, full_crowds, coloured, apart):
                    refused(self, "BadOrder", action, web, handed)
                refused(self, "BadOrder", behind, web, handed, 0)
                self.assertEqual(handed, order)
            refused(self, "NoPoint", behind, web, whole, many)
            refused(self, "NoPoint", way, web, 0, many, [])
            self.assertEqual(whole, list(range(many)))
            self.assertEqual(all_answers(web, whole, [0]), before)


def sixty_points():
    """Ties of webs of 60 points of many kinds, with their names."""
    pairs = all_pairs(60)
    row = numbers(48)
    for at, ties in enumerate(great_tie_lists()):
        yield f"great {at}", ties
    yield "all but the last", pairs[:-1]
    yield "all but a ring", [pair for pair in pairs if pair not in great_tie_lists()[1]]
    yield "two halves tied across", [pair for pair in pairs if pair[0] < 30 <= pair[1]]
    square = [(0, 1), (1, 2), (2, 3), (0, 3)]
    yield "rings of four", [(at + low, at + high) for at in range(0, 60, 4) for low, high in square]
    for size in (5, 20, 30, 45, 55):
        yield f"{size} tied to all, the others last", [pair for pair in pairs if pair[0] < size]
        yield f"{size} tied to all, the others first", [pair for pair in pairs if pair[1] >= 60 - size]
    for size in (2, 10, 20, 40):
        band = [pair for pair in pairs if pair[1] - pair[0] <= size]
        yield f"band {size}", band
        squares = square + [(low + 56, high + 56) for low, high in square] + [(3, 4), (55, 56)]
        yield f"band {size} between squares", [pair for pair in band if pair[0] >= 4 and pair[1] < 56] + squares
        yield f"band {size} closed", [pair for pair in pairs if (pair[1] - pair[0] + size) % 60 <= 2 * size]
    for percent in (3, 10, 25, 50, 75, 90, 97):
        yield f"{percent} percent", [pair for pair in pairs if next(row) % 100 < percent]
        yield f"{percent} percent without a ring", ringless_ties(row, 60, percent)


class Quickness(unittest.TestCase):

    def test_sixty_points(self):
        row = numbers(49)
        for name, ties in sixty_points():
            start = time.process_time()
            ties = sorted(ties)
            web = read(shown(web_of(60, ties)))
            order = mixed(row, range(60))
            gone, left = taken(web)
            ring = long_ring(web)
            verdict = judged(web)
            sound = holds(web, verdict)
            put = filled(web, order)
            told = gap(web, order)
            grown = web_of(60, ties + put)
            crowds = full_crowds(grown, order)
            colours = coloured(grown, order)
            picked, holding = apart(grown, order)
            closed = [is_ring(web, order), is_crowd(web, order), way(web, 0, 59, order[:20])]
            spent = time.process_time() - start
            self.assertLess(spent, 5, name)

            self.assertEqual(web.ties(), ties, name)
            self.assertIs(sound, True, name)
            self.assertTrue(second.holds(60, ties, *told_by(verdict)), name)
            self.assertEqual(ring is None, left == [], name)
            self.assertIs(ring is None or second.is_ring(60, ties, ring), True, name)
            self.assertEqual(sorted(gone + left), list(range(60)), name)
            self.assertEqual(told, second.gap(ties, order), name)
            self.assertIsNone(second.gap(grown.ties(), order), name)
            self.assertEqual(colours, second.coloured(grown.ties(), order), name)
            self.assertEqual(len(set(colours)), max(map(len, crowds)), name)
            self.assertEqual(picked, second.picked(grown.ties(), order), name)
            self.assertEqual(sorted(set(sum(holding, []))), list(range(60)), name)
            self.assertEqual(closed[:2], [False, len(ties) == 1770], name)

    def test_by_an_order_of_its_own(self):
        for name, ties in sixty_points():
            web = web_of(60, ties)
            verdict = judged(web)
            start = time.process_time()
            if verdict.ring is None:
                full_crowds(web, verdict.order)
                coloured(web, verdict.order)
                apart(web, verdict.order)
                self.assertEqual(filled(web, verdict.order), [], name)
            else:
                self.assertGreater(len(filled(web, list(range(60)))), 0, name)
            self.assertLess(time.process_time() - start, 5, name)


if __name__ == "__main__":
    unittest.main()
