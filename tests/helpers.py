"""What several tests use."""

import itertools

from shortring import errors
from shortring.webs import web_of

REFUSALS = ("BadWeb", "NoPoint", "BadText", "BadOrder", "HasGap")

FAR = (100, 10**6, 2**31, 2**64, 10**5000)


def all_pairs(many):
    """Every pair of different points, the lesser one ahead, rising."""
    return list(itertools.combinations(range(many), 2))


def all_tie_lists(many):
    """Every choice of ties of so many points, each list rising."""
    pairs = all_pairs(many)
    for size in range(len(pairs) + 1):
        for ties in itertools.combinations(pairs, size):
            yield list(ties)


def great_tie_lists():
    """Ties of webs of 60 points: none, a ring, a star, every second, all."""
    ring = sorted([(0, 59)] + [(point, point + 1) for point in range(59)])
    star = [(0, point) for point in range(1, 60)]
    even = [pair for pair in all_pairs(60) if sum(pair) % 2 == 0]
    return [[], ring, star, even, all_pairs(60)]


def some_webs():
    """Pairs of a web and the ties that it has to tell."""
    for many in range(5):
        for ties in all_tie_lists(many):
            yield web_of(many, ties), ties
    for ties in great_tie_lists():
        yield web_of(60, ties), ties


def refused(test, name, action, *values):
    """The action is refused with just that class of refusal."""
    # The values stay out of the messages: Python refuses to write some of them.
    try:
        action(*values)
    except Exception as error:
        test.assertIs(error.__class__, getattr(errors, name), repr(error))
        test.assertIsInstance(error, errors.WebError)
        test.assertIsInstance(error, ValueError)
        for other in REFUSALS:
            if other != name:
                test.assertNotIsInstance(error, getattr(errors, other))
        return
    test.fail(f"not refused with {name}")


def numbers(seed):
    """An endless row of whole numbers that look like chance and are the same each time."""
    while True:
        seed = (seed * 6364136223846793005 + 1442695040888963407) % 2**64
        yield seed >> 33


def chosen(row, values):
    return values[next(row) % len(values)]


def mixed(row, values):
    """The values in another order."""
    return [value for _, value in sorted((next(row), value) for value in values)]


def ringless_ties(row, many, percent):
    """Ties of a web without a ring: each point is tied to a part of some crowd of points ahead of it."""
    ties, crowds, names = [], [[]], mixed(row, range(many))
    for point in names:
        part = [other for other in chosen(row, crowds) if next(row) % 100 < percent]
        ties += [(min(point, other), max(point, other)) for other in part]
        crowds.append(part + [point])
    return sorted(ties)


def few_points():
    """Webs of up to eight points, as pairs of their number of points and their ties."""
    for many in range(5):
        for ties in all_tie_lists(many):
            yield many, ties
    row = numbers(1)
    for many in (5, 6, 7, 8):
        yield many, []
        yield many, all_pairs(many)
        yield many, sorted([(0, many - 1)] + [(point, point + 1) for point in range(many - 1)])
        for percent in (15, 30, 45, 60, 75, 90) * 4:
            yield many, [pair for pair in all_pairs(many) if next(row) % 100 < percent]
            yield many, ringless_ties(row, many, percent)


def some_orders(row, many, size):
    """Orders of so many points: all of them, where they are few."""
    if many < 4:
        return [list(order) for order in itertools.permutations(range(many))]
    return [list(range(many))] + [mixed(row, range(many)) for _ in range(size)]


def no_orders(many):
    """Lists that are no order of so many points."""
    order = list(range(many))
    lists = [order[:-1], order[1:], order + [many], order + [0], [-1] + order, order + order]
    lists += [order[:-1] + [many], [-1] + order[1:], order[:-1] + [order[0]] if many > 1 else [1]]
    lists += [[point + 1 for point in order], [-point for point in order]]
    for far in FAR:
        lists += [order[:-1] + [far], [-far] + order[1:], order + [far]]
    return [some for some in lists if sorted(some) != order]
