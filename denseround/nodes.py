"""Nodes of a tree of cases, looked over with ties that are in the round or out."""


def standing(place, ties):
    """Tell in how many of the ties the place stands."""
    return len([tie for tie in ties if place in tie])


def is_few(yard, place, outs):
    """Tell whether fewer than two of the place's ties aren't out."""
    return place in range(yard.many()) and yard.degree(place) - standing(place, outs) < 2


def is_ring(yard, places, ins):
    """Tell whether the places are a ring of ties that are in, short of a round."""
    if not 3 <= len(places) < yard.many() or len(set(places)) < len(places):
        return False
    following = [*places[1:], places[0]]
    return all([(min(pair), max(pair)) in ins for pair in zip(places, following)])


def is_leaf_shown(yard, node, ins, outs):
    """Tell whether a node without nodes below it is as told."""
    match node:
        case ("few", place):
            return is_few(yard, place, outs)
        case ("three", place):
            return standing(place, ins) > 2
        case ("ring", places):
            return is_ring(yard, places, ins)
        case _:
            return False


def is_tree_shown(yard, root):
    """Tell whether the node and all nodes below it are as told."""
    ties = yard.ties()
    # Nodes wait in a list, as a tree may be deeper than calls should be.
    waiting = [(root, (), ())]
    while waiting:
        node, ins, outs = waiting.pop()
        match node:
            case ("tie", tie, one, other):
                if tie not in ties or tie in ins or tie in outs:
                    return False
                waiting.append((one, (*ins, tie), outs))
                waiting.append((other, ins, (*outs, tie)))
            case _:
                if not is_leaf_shown(yard, node, ins, outs):
                    return False
    return True
