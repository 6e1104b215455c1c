"""Rings, and ways from one point to another past shut points."""

from shortring.errors import NoPoint
from shortring.orders import taken
from shortring.webs import different, untied


def way(web, start, goal, shut):
    """A shortest way from the start to the goal past the shut points, or None."""
    if not 0 <= min(start, goal) <= max(start, goal) < web.many:
        raise NoPoint("a way begins and ends with a point of the web")
    if goal in shut:
        return None
    onward = _onward(web, goal, shut)
    if start not in onward:
        return None
    points = [start]
    while points[-1] != goal:
        points.append(onward[points[-1]])
    return points


def is_ring(web, points):
    """Whether these are four points or more, each tied just to the ones on either side of it."""
    many = len(points)
    if many < 4 or not different(web, points):
        return False
    for at, point in enumerate(points):
        sides = [points[at - 1], points[(at + 1) % many]]
        if [other for other in web.beside(point) if other in points] != sorted(sides):
            return False
    return True


def long_ring(web):
    """A ring of the web, or None where it has none."""
    # No point of a ring can be the first of it to be taken away: each ring
    # lies among the points that are left.
    for middle in taken(web)[1]:
        ring = _ring_through(web, middle)
        if ring is not None:
            return ring
    return None


def _ring_through(web, middle):
    """A ring that begins with this point, or None where it lies on none."""
    beside = web.beside(middle)
    for piece in _pieces(web, [middle] + beside):
        # A shortest way through the piece, from one of the middle's neighbours
        # to another one that is not tied to it, closes a ring by the middle.
        pair = untied(web, [point for point in beside if _touches(web, point, piece)])
        if pair is not None:
            shut = [middle] + [point for point in beside if point not in pair]
            return [middle] + way(web, pair[0], pair[1], shut)
    return None


def _pieces(web, shut):
    """The points that are not shut, in one list those that ways past the shut ones join."""
    pieces = []
    done = list(shut)
    for point in range(web.many):
        if point not in done:
            piece = list(_onward(web, point, shut))
            pieces.append(piece)
            done.extend(piece)
    return pieces


def _touches(web, point, piece):
    return any(web.tied(point, other) for other in piece)


def _onward(web, goal, shut):
    """For each point with a way past the shut ones to the goal, the next point of a shortest one."""
    barred = set(shut)
    # The goal, which is never shut here, stands for its own next point.
    onward = {goal: goal}
    edge = [goal]
    while edge:
        further = []
        for point in edge:
            for other in web.beside(point):
                if other not in onward and other not in barred:
                    onward[other] = point
                    further.append(other)
        edge = further
    return onward
