"""Yards that several tests look at."""

from itertools import combinations, permutations

from denseround.yards import Yard


def full_ties(many):
    return list(combinations(range(many), 2))


def full(many):
    """All places tied to all others."""
    return Yard(many, full_ties(many))


def path(many):
    """Each place tied to the next one, the last one to none behind it."""
    return Yard(many, [(one, one + 1) for one in range(many - 1)])


def ring(many):
    """Each place tied to the next one, the last one to the first."""
    return Yard(many, [(one, one + 1) for one in range(many - 1)] + [(0, many - 1)])


def halves(many):
    """Each place of the first half tied to each one of the second half."""
    half = many // 2
    return Yard(many, [(one, other) for one in range(half) for other in range(half, many)])


def all_yards(many):
    """All yards of so many places."""
    ties = full_ties(many)
    for bits in range(2 ** len(ties)):
        yield Yard(many, [tie for at, tie in enumerate(ties) if bits >> at & 1])


def some_yards(many, count):
    """So many different yards, spread over all of so many places."""
    ties = full_ties(many)
    for at in range(count):
        bits = at * (2 ** len(ties) // count * 2 // 3 * 2 + 1)
        yield Yard(many, [tie for number, tie in enumerate(ties) if bits >> number & 1])


def two_triangles():
    """Two rings of three places, with no tie between them."""
    return Yard(6, [(0, 1), (0, 2), (1, 2), (3, 4), (3, 5), (4, 5)])


def two_stars():
    """Each of the two places 0 and 1 tied to each of 2, 3 and 4."""
    return Yard(5, [(one, other) for one in (0, 1) for other in (2, 3, 4)])


def two_rings():
    """Two rings of five places, the second one by leaps, and ties from one to the other."""
    leaps = [(5, 7), (7, 9), (6, 9), (6, 8), (5, 8)]
    return Yard(10, ring(5).ties() + leaps + [(one, one + 5) for one in range(5)])


def all_rounds(yard):
    """All lists that begin with 0 and go once through all places by ties and back."""
    rows = [(0, *row) for row in permutations(range(1, yard.many()))] if yard.many() > 2 else []
    return [
        list(row)
        for row in rows
        if all(yard.is_tied(row[at - 1], place) for at, place in enumerate(row))
    ]
