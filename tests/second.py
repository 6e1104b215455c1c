"""What the document says of a web, found out a second way, slowly and from its ties alone.

A web is given here as its number of points and its rising list of ties; nothing of the package is used.
"""

import functools
import itertools


def both_ways(ties):
    return {(one, other) for one, other in ties} | {(other, one) for one, other in ties}


def is_order(many, order):
    return len(order) == many and all(order.count(point) == 1 for point in range(many))


def behind(ties, order, point):
    pairs = both_ways(ties)
    return [other for at, other in enumerate(order) if at > order.index(point) and (point, other) in pairs]


def gap(ties, order):
    pairs = both_ways(ties)
    for one, other, further in itertools.combinations(order, 3):
        if (one, other) in pairs and (one, further) in pairs and (other, further) not in pairs:
            return one, other, further
    return None


def taken(many, ties):
    gone, left = [], set(range(many))
    while True:
        loose = [point for point in left if can_go(ties, point, left)]
        if not loose:
            return gone, sorted(left)
        gone.append(min(loose))
        left.remove(min(loose))


def can_go(ties, point, left):
    pairs = both_ways(ties)
    beside = [other for other in left if (point, other) in pairs]
    return all(pair in pairs for pair in itertools.permutations(beside, 2))


def filled(many, ties, order):
    """Two points get a tie where a way leads from one to the other by points that all stand ahead of both."""
    put = []
    for one, other in itertools.combinations(range(many), 2):
        ahead = order[:min(order.index(one), order.index(other))]
        shut = [point for point in range(many) if point not in ahead + [one, other]]
        if (one, other) not in ties and steps(many, ties, one, other, shut) is not None:
            put.append((one, other))
    return put


def steps(many, ties, start, goal, shut):
    """How many ties a shortest way has, or None: distances lowered until none falls any more."""
    if start in shut or goal in shut:
        return None
    far = {point: None for point in range(many)}
    far[start] = 0
    changed = True
    while changed:
        changed = False
        for one, other in both_ways(ties):
            if far[one] is not None and other not in shut and one not in shut:
                if far[other] is None or far[other] > far[one] + 1:
                    far[other] = far[one] + 1
                    changed = True
    return far[goal]


def is_way(many, ties, points, start, goal, shut):
    pairs = both_ways(ties)
    return (
        points != [] and points[0] == start and points[-1] == goal
        and all(pair in pairs for pair in itertools.pairwise(points))
        and not any(point in shut for point in points)
        and all(0 <= point < many for point in points)
    )


def is_ring(many, ties, points):
    if len(points) < 4 or len(set(points)) < len(points) or not set(points) <= set(range(many)):
        return False
    round_about = set(zip(points, points[1:] + points[:1]))
    inside = {(one, other) for one, other in both_ways(ties) if one in points and other in points}
    return inside == both_ways(round_about)


def has_ring(many, ties):
    """Whether some four points or more, of which each is tied to just two, hang together."""
    pairs = both_ways(ties)
    for size in range(4, many + 1):
        for some in itertools.combinations(range(many), size):
            inside = [(one, other) for one, other in pairs if one in some and other in some]
            if all([one for one, _ in inside].count(point) == 2 for point in some):
                shut = [point for point in range(many) if point not in some]
                if all(steps(many, ties, some[0], point, shut) is not None for point in some):
                    return True
    return False


def is_crowd(many, ties, points):
    pairs = both_ways(ties)
    sound = len(set(points)) == len(points) and set(points) <= set(range(many))
    return sound and all(pair in pairs for pair in itertools.permutations(points, 2))


def crowds(many, ties):
    """All crowds, each as a rising tuple."""
    return [some for size in range(many + 1) for some in itertools.combinations(range(many), size)
            if is_crowd(many, ties, list(some))]


def full_crowds(many, ties, order):
    every = [set(crowd) for crowd in crowds(many, ties)]
    full = [crowd for crowd in every if crowd and not any(crowd < other for other in every)]
    return [sorted(crowd) for crowd in sorted(full, key=lambda crowd: min(map(order.index, crowd)))]


def greatest_crowd(many, ties):
    return max(len(crowd) for crowd in crowds(many, ties))


def most_apart(many, ties):
    """How many points can be picked at most so that no two of them are tied."""
    pairs = both_ways(ties)
    return max(size for size in range(many + 1) for some in itertools.combinations(range(many), size)
               if not any(pair in pairs for pair in itertools.combinations(some, 2)))


def fewest_crowds(many, ties):
    """How few crowds can hold all points."""
    every = [frozenset(crowd) for crowd in crowds(many, ties)]

    @functools.cache
    def needed(rest):
        if not rest:
            return 0
        return 1 + min(needed(rest - crowd) for crowd in every if min(rest) in crowd)

    return needed(frozenset(range(many)))


def coloured(ties, order):
    colours = {}
    for point in order[::-1]:
        used = {colours[other] for other in behind(ties, order, point)}
        colours[point] = next(colour for colour in itertools.count() if colour not in used)
    return [colours[point] for point in sorted(order)]


def picked(ties, order):
    """The first point of the order that is there, then the same without it and what it is tied to."""
    if not order:
        return []
    pairs = both_ways(ties)
    rest = [point for point in order[1:] if (order[0], point) not in pairs]
    return [order[0]] + picked(ties, rest)


def holds(many, ties, order, ring, crowd, colours, number):
    if ring is not None:
        return is_ring(many, ties, ring) and [order, crowd, colours] == [None] * 3 and number == 0
    if None in (order, crowd, colours):
        return False
    return (
        is_order(many, order) and gap(ties, order) is None
        and is_crowd(many, ties, crowd) and number == len(crowd)
        and len(colours) == many and all(colour in range(number) for colour in colours)
        and all(colours[one] != colours[other] for one, other in ties)
    )
