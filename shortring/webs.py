"""Webs: points that are numbered from nought, and ties between two of them."""

from shortring.errors import BadWeb, NoPoint

MOST = 60


class Web:
    """Points and ties, made by web_of and read; it is never changed."""

    def __init__(self, many, ties):
        self.many = many
        self._rows = _rows_of(many, ties)

    def beside(self, point):
        """The points that the point is tied to, rising, as a new list."""
        self._need(point)
        return list(self._rows[point])

    def tied(self, one, other):
        """Whether the two points are tied; a point is never tied to itself."""
        self._need(one)
        self._need(other)
        return other in self._rows[one]

    def ties(self):
        """Each tie once, the lesser point ahead, rising, as a new list."""
        return [(low, high) for low in range(self.many) for high in self._rows[low] if low < high]

    def _need(self, point):
        # An index below 0 would silently count from the end.
        if not 0 <= point < self.many:
            raise NoPoint("the web has no such point")


def web_of(many, ties):
    """The web of so many points and these ties; BadWeb where there is none."""
    # The messages do not repeat what was handed in: Python refuses to write
    # numbers of thousands of digits.
    if not 0 <= many <= MOST:
        raise BadWeb(f"a web has from 0 to {MOST} points")
    for one, other in ties:
        if not 0 <= min(one, other) < max(one, other) < many:
            raise BadWeb("a tie needs two different points of the web")
    return Web(many, ties)


def different(web, points):
    """Whether these are points of the web, none of them twice."""
    return len(set(points)) == len(points) and all(0 <= point < web.many for point in points)


def untied(web, points):
    """The first of the points that is not tied to one further on, and the first of these; or None."""
    for at, one in enumerate(points):
        other = _first_untied(web, one, points[at + 1:])
        if other is not None:
            return one, other
    return None


def _first_untied(web, one, others):
    """The first of the others that the one is not tied to, or None."""
    beside = set(web.beside(one))
    for other in others:
        if other not in beside:
            return other
    return None


def _rows_of(many, ties):
    """For each point the list of those that it is tied to, rising, each once."""
    rows = [[] for point in range(many)]
    for one, other in ties:
        rows[one].append(other)
        rows[other].append(one)
    return [sorted(set(row)) for row in rows]
