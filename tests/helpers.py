"""Yards that several tests look at."""

from itertools import combinations

from denseround.yards import Yard


def full_ties(many):
    return list(combinations(range(many), 2))


def full(many):
    """All places tied to all others."""
    return Yard(many, full_ties(many))


def path(many):
    """Each place tied to the next one, the last one to none behind it."""
    return Yard(many, [(one, one + 1) for one in range(many - 1)])


def ring(many):
    """Each place tied to the next one, the last one to the first."""
    return Yard(many, [(one, one + 1) for one in range(many - 1)] + [(0, many - 1)])


def halves(many):
    """Each place of the first half tied to each one of the second half."""
    half = many // 2
    return Yard(many, [(one, other) for one in range(half) for other in range(half, many)])


def all_yards(many):
    """All yards of so many places."""
    ties = full_ties(many)
    for bits in range(2 ** len(ties)):
        yield Yard(many, [tie for at, tie in enumerate(ties) if bits >> at & 1])
