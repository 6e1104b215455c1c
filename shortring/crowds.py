"""Crowds, colours and points apart, by orders without a gap."""

from shortring.errors import HasGap
from shortring.orders import behind, gap
from shortring.webs import different, untied


def is_crowd(web, points):
    """Whether these are different points of the web that are all tied to one another."""
    return different(web, points) and untied(web, points) is None


def full_crowds(web, order):
    """Each crowd to which no further point could be put, by its first point in the order."""
    _need_no_gap(web, order)
    crowds = []
    for point in order:
        crowd = _crowd_of(web, order, point)
        if not _could_grow(web, crowd):
            crowds.append(crowd)
    return crowds


def coloured(web, order):
    """For each point its colour: from the last one on, the least that no point behind it has."""
    _need_no_gap(web, order)
    colours = [0] * len(order)
    for point in reversed(order):
        used = [colours[other] for other in behind(web, order, point)]
        colours[point] = min(colour for colour in range(len(used) + 1) if colour not in used)
    return colours


def apart(web, order):
    """The points picked, from the first one on, no two of them tied; and the crowd of each."""
    _need_no_gap(web, order)
    picked = []
    for point in order:
        if not any(web.tied(point, other) for other in picked):
            picked.append(point)
    return picked, [_crowd_of(web, order, point) for point in picked]


def _need_no_gap(web, order):
    if gap(web, order) is not None:
        raise HasGap("two points behind a point of the order are not tied")


def _crowd_of(web, order, point):
    """The point and the points behind it, rising; a crowd, as the order has no gap."""
    return sorted([point] + behind(web, order, point))


def _could_grow(web, crowd):
    return any(_fits(web, crowd, point) for point in range(web.many))


def _fits(web, crowd, point):
    """Whether the point is tied to all points of the crowd, so that it is none of them."""
    return all(web.tied(point, member) for member in crowd)
