"""Yards closed by pairs with ties enough, and rounds led back from them."""

from denseround.errors import BadOrder
from denseround.orders import gaps, is_round, least_back, turned
from denseround.yards import Yard, untied


def first_with_enough(pairs, degrees):
    """Tell the first pair with as many ties together as there are places, or None."""
    for one, other in pairs:
        if degrees[one] + degrees[other] >= len(degrees):
            return one, other
    return None


def closed(yard):
    """Tell the pairs that are tied to close the yard, in order."""
    left = untied(yard)
    degrees = [yard.degree(place) for place in range(yard.many())]
    pairs = []
    pair = first_with_enough(left, degrees)
    while pair is not None:
        pairs.append(pair)
        left.remove(pair)
        for place in pair:
            degrees[place] += 1
        # From the least pair again: a lesser one may have ties enough by this one.
        pair = first_with_enough(left, degrees)
    return pairs


def tied_too(yard, pairs):
    """Tell the yard in which these pairs are tied, too."""
    return Yard(yard.many(), yard.ties() + pairs)


def without_gap(yard, order):
    """Tell the order turned at its only gap, or None where it has none."""
    found = gaps(yard, order)
    if not found:
        return None
    return turned(yard, order, found[0], least_back(yard, order, found[0]))


def opened(yard, order):
    """Lead a round of the closed yard back, pair by pair, to one of the yard."""
    pairs = closed(yard)
    if not is_round(tied_too(yard, pairs), order):
        raise BadOrder("no round of the closed yard")
    orders = [list(order)]
    for ahead in reversed(range(len(pairs))):
        # Without this pair the order has one gap if it goes by it, else none.
        order_turned = without_gap(tied_too(yard, pairs[:ahead]), orders[-1])
        if order_turned is not None:
            orders.append(order_turned)
    return orders


def by_closing(yard):
    """Tell a round of the yard where all pairs of the closed one are tied, or None."""
    many = yard.many()
    if many < 3 or untied(tied_too(yard, closed(yard))):
        return None
    return opened(yard, list(range(many)))[-1]
