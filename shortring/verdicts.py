"""Verdicts: an order, a crowd and colours of a web without a ring, or a ring."""

from shortring.crowds import coloured, full_crowds, is_crowd
from shortring.orders import gap, is_order, taken
from shortring.rings import is_ring, long_ring


class Verdict:
    """What is told of a web; its lists are its own, and each reading tells a new one."""

    def __init__(self, order, ring, crowd, colours, many):
        self._order = _copied(order)
        self._ring = _copied(ring)
        self._crowd = _copied(crowd)
        self._colours = _copied(colours)
        self.many = many

    @property
    def order(self):
        """An order of taking away, or None."""
        return _copied(self._order)

    @property
    def ring(self):
        """A ring, or None."""
        return _copied(self._ring)

    @property
    def crowd(self):
        """A greatest crowd, or None."""
        return _copied(self._crowd)

    @property
    def colours(self):
        """The colour of each point, or None."""
        return _copied(self._colours)


def judged(web):
    """The verdict of the web."""
    ring = long_ring(web)
    if ring is not None:
        return Verdict(None, ring, None, None, 0)
    order = taken(web)[0]
    crowd = max(full_crowds(web, order), key=len, default=[])
    return Verdict(order, None, crowd, coloured(web, order), len(crowd))


def holds(web, verdict):
    """Whether what the verdict tells is so, whoever made it."""
    if verdict.ring is None:
        return _holds_without_ring(web, verdict)
    return _holds_with_ring(web, verdict)


def _holds_without_ring(web, verdict):
    order, crowd, colours = verdict.order, verdict.crowd, verdict.colours
    if order is None or crowd is None or colours is None:
        return False
    if not is_order(web, order) or gap(web, order) is not None:
        return False
    if not is_crowd(web, crowd) or len(crowd) != verdict.many:
        return False
    return _can_colour(web, colours, verdict.many)


def _holds_with_ring(web, verdict):
    if verdict.order is not None or verdict.crowd is not None or verdict.colours is not None:
        return False
    return verdict.many == 0 and is_ring(web, verdict.ring)


def _can_colour(web, colours, many):
    """Whether each point has one of so many colours, and tied points have different ones."""
    if len(colours) != web.many or not all(0 <= colour < many for colour in colours):
        return False
    return all(colours[one] != colours[other] for one, other in web.ties())


def _copied(points):
    if points is None:
        return None
    return list(points)
