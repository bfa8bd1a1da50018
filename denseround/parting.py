"""Groups that stay without some places, and places whose going parts too much."""

from itertools import combinations

from denseround.errors import TooMany

MOST_SEARCHED = 12


def check_searched(yard):
    """Refuse with TooMany a yard of more places than are searched."""
    if yard.many() > MOST_SEARCHED:
        raise TooMany(f"more than {MOST_SEARCHED} places")


def group_of(yard, first, others):
    """Tell the group in which ties hold some of the others together with the first."""
    group = [first]
    at = 0
    while at < len(group):
        here = group[at]
        group.extend([place for place in others if place not in group and yard.is_tied(here, place)])
        at += 1
    return sorted(group)


def groups_without(yard, places):
    """Tell the groups of all other places that ties hold together."""
    left = [place for place in range(yard.many()) if place not in places]
    groups = []
    while left:
        group = group_of(yard, left[0], left[1:])
        groups.append(group)
        left = [place for place in left if place not in group]
    return groups


def parting(yard):
    """Tell the fewest places that leave more groups than they are, or None."""
    check_searched(yard)
    many = yard.many()
    # Of half of the places or more, too few others stay to be more groups.
    for size in range(1, (many + 1) // 2):
        for places in combinations(range(many), size):
            if len(groups_without(yard, places)) > size:
                return list(places)
    return None
