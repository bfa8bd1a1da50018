"""Yards: places that are tied in pairs."""

from denseround.errors import BadYard

MOST_PLACES = 30


def check_yard(many, ties):
    """Refuse with BadYard the first thing that cannot be."""
    if not 1 <= many <= MOST_PLACES:
        raise BadYard(0, "many")
    ahead = set()
    for at, (one, other) in enumerate(ties):
        if not 0 <= one < other < many:
            raise BadYard(at, "place")
        if (one, other) in ahead:
            raise BadYard(at, "twice")
        ahead.add((one, other))


class Yard:
    """A number of places, and the ties between them."""

    def __init__(self, many, ties):
        check_yard(many, ties)
        self._many = many
        self._ties = list(ties)
        self._tied = {(one, other): True for one, other in ties}
        self._degrees = {place: 0 for place in range(many)}
        for one, other in ties:
            self._degrees[one] += 1
            self._degrees[other] += 1

    def many(self):
        """Tell how many places there are."""
        return self._many

    def ties(self):
        """Tell the ties as they were handed in."""
        return list(self._ties)

    def is_tied(self, one, other):
        """Tell whether two places are tied, whichever is told first."""
        return (one, other) in self._tied or (other, one) in self._tied

    def degree(self, place):
        """Tell how many ties a place has."""
        # A place beyond the yard has none: the document names no refusal here.
        return self._degrees.get(place, 0)


def untied(yard):
    """Tell all pairs (one, other), one less than other, that aren't tied, rising."""
    many = yard.many()
    return [
        (one, other)
        for one in range(many)
        for other in range(one + 1, many)
        if not yard.is_tied(one, other)
    ]


def thin(yard):
    """Tell the pairs that aren't tied and have too few ties together."""
    return [
        (one, other)
        for one, other in untied(yard)
        if yard.degree(one) + yard.degree(other) < yard.many()
    ]
