"""What several tests use."""

import itertools

from shortring import errors
from shortring.webs import web_of

REFUSALS = ("BadWeb", "NoPoint", "BadText", "BadOrder", "HasGap")

FAR = (100, 10**6, 2**31, 2**64, 10**5000)


def all_pairs(many):
    """Every pair of different points, the lesser one ahead, rising."""
    return list(itertools.combinations(range(many), 2))


def all_tie_lists(many):
    """Every choice of ties of so many points, each list rising."""
    pairs = all_pairs(many)
    for size in range(len(pairs) + 1):
        for ties in itertools.combinations(pairs, size):
            yield list(ties)


def great_tie_lists():
    """Ties of webs of 60 points: none, a ring, a star, every second, all."""
    ring = sorted([(0, 59)] + [(point, point + 1) for point in range(59)])
    star = [(0, point) for point in range(1, 60)]
    even = [pair for pair in all_pairs(60) if sum(pair) % 2 == 0]
    return [[], ring, star, even, all_pairs(60)]


def some_webs():
    """Pairs of a web and the ties that it has to tell."""
    for many in range(5):
        for ties in all_tie_lists(many):
            yield web_of(many, ties), ties
    for ties in great_tie_lists():
        yield web_of(60, ties), ties


def refused(test, name, action, *values):
    """The action is refused with just that class of refusal."""
    # The values stay out of the messages: Python refuses to write some of them.
    try:
        action(*values)
    except Exception as error:
        test.assertIs(error.__class__, getattr(errors, name), repr(error))
        test.assertIsInstance(error, errors.WebError)
        test.assertIsInstance(error, ValueError)
        for other in REFUSALS:
            if other != name:
                test.assertNotIsInstance(error, getattr(errors, other))
        return
    test.fail(f"not refused with {name}")
