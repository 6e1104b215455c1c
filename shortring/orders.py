"""Orders of taking away: lists of all points of a web, each once."""

from shortring.errors import BadOrder
from shortring.webs import untied, web_of


def is_order(web, order):
    """Whether the list has all points of the web, each once."""
    return sorted(order) == list(range(web.many))


def behind(web, order, point):
    """The points that the point is tied to and that stand behind it, as they stand."""
    _need_order(web, order)
    beside = web.beside(point)
    return [other for other in order[order.index(point) + 1:] if other in beside]


def gap(web, order):
    """The first point of the order with two untied points behind it, and these two; or None."""
    _need_order(web, order)
    for point in order:
        pair = untied(web, behind(web, order, point))
        if pair is not None:
            return point, pair[0], pair[1]
    return None


def taken(web):
    """The points that can be taken away, in the order in which they go, and those that are left."""
    gone = []
    left = list(range(web.many))
    point = _next_to_go(web, left)
    while point is not None:
        gone.append(point)
        left.remove(point)
        point = _next_to_go(web, left)
    return gone, left


def filled(web, order):
    """The ties that have to be put in, rising, so that the order has no gap."""
    _need_order(web, order)
    put = []
    grown = web
    for point in order:
        put.extend(_missing(grown, behind(grown, order, point)))
        # What stands behind a later point depends on the ties put in so far.
        grown = web_of(web.many, web.ties() + put)
    return sorted(put)


def _need_order(web, order):
    if not is_order(web, order):
        raise BadOrder("an order has all points of the web, each once")


def _next_to_go(web, left):
    """The least of the points left whose neighbours left are all tied to one another, or None."""
    for point in left:
        if untied(web, [other for other in web.beside(point) if other in left]) is None:
            return point
    return None


def _missing(web, points):
    """The pairs of these points that are not tied, each with its lesser point ahead."""
    return [(low, high) for low in points for high in points if low < high and not web.tied(low, high)]
