"""The first round of a small yard, how many there are, or why there is none."""

from denseround.cases import tree_of
from denseround.nodes import is_tree_shown
from denseround.parting import check_searched, groups_without, parting


def is_parted(yard, places):
    """Tell whether there are more groups without the places than they are."""
    if not places or len(set(places)) < len(places):
        return False
    if min(places) < 0 or max(places) >= yard.many():
        return False
    return len(groups_without(yard, places)) > len(places)


def is_shown(yard, paper):
    """Tell whether the paper is as told, so that the yard has no round."""
    match paper:
        case ("small",):
            return yard.many() < 3
        case ("parted", places):
            return is_parted(yard, places)
        case ("cases", node):
            return yard.many() >= 3 and is_tree_shown(yard, node)
        case _:
            return False


def without(places, place):
    """Tell the places but this one."""
    return tuple([other for other in places if other != place])


def ways_home(yard, known, place, left):
    """Tell how many ways go from the place through all that are left, and on to 0."""
    if not left:
        return 1 if yard.is_tied(place, 0) else 0
    # Ways that come by the same places differently go on alike.
    if (place, left) not in known:
        known[place, left] = sum([
            ways_home(yard, known, onward, without(left, onward))
            for onward in left
            if yard.is_tied(place, onward)
        ])
    return known[place, left]


def least_onward(yard, known, place, left):
    """Tell the least place that a way home from the place goes on to, or None."""
    for onward in left:
        if yard.is_tied(place, onward) and ways_home(yard, known, onward, without(left, onward)):
            return onward
    return None


def least_round(yard):
    """Tell the least list that is a round and begins with 0, or None."""
    known = {}
    order = [0]
    left = tuple(range(1, yard.many()))
    while left:
        onward = least_onward(yard, known, order[-1], left)
        if onward is None:
            return None
        order.append(onward)
        left = without(left, onward)
    return order


def round_of(yard):
    """Tell the least round, or a paper that shows that there is none."""
    check_searched(yard)
    if yard.many() < 3:
        return "none", ("small",)
    order = least_round(yard)
    if order is not None:
        return "round", order
    places = parting(yard)
    if places is not None:
        return "none", ("parted", places)
    return "none", ("cases", tree_of(yard))


def counted(yard):
    """Tell how many rounds there are."""
    check_searched(yard)
    if yard.many() < 3:
        return 0
    # Each round is a way home twice, there and back.
    return ways_home(yard, {}, 0, tuple(range(1, yard.many()))) // 2
