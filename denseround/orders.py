"""Orders of all places of a yard, their gaps, and turnings that close them."""

from denseround.errors import BadOrder


def check_order(yard, order):
    """Refuse with BadOrder what isn't a list of all places, each once."""
    if sorted(order) != list(range(yard.many())):
        raise BadOrder("not all places, each once")


def gaps(yard, order):
    """Tell the numbers of the places that aren't tied to the next one, rising."""
    check_order(yard, order)
    following = order[1:] + order[:1]
    return [
        at
        for at, (one, other) in enumerate(zip(order, following))
        if not yard.is_tied(one, other)
    ]


def is_round(yard, order):
    """Tell whether the order goes by ties alone, through three places or more."""
    found = gaps(yard, order)
    return yard.many() >= 3 and not found


def begun_behind(order, at):
    """Tell the order begun behind number at, so that the one there is the last."""
    return order[at + 1:] + order[:at + 1]


def turned(yard, order, at, back):
    """Tell the order behind the turning (at, back)."""
    check_order(yard, order)
    if not 0 <= at < len(order):
        raise BadOrder("at is no number of the order")
    if not 0 <= back < len(order) - 1:
        raise BadOrder("back is no number of the order but the last one")
    row = begun_behind(order, at)
    return row[:back + 1][::-1] + row[back + 1:]


def least_back(yard, order, at):
    """Tell the least back that closes the gap at, or None."""
    row = begun_behind(order, at)
    for back in range(1, len(row) - 1):
        if yard.is_tied(row[0], row[back + 1]) and yard.is_tied(row[-1], row[back]):
            return back
    return None


def first_turning(yard, order):
    """Tell the least gap that some turning closes, with its least back, or None."""
    for at in gaps(yard, order):
        back = least_back(yard, order, at)
        if back is not None:
            return at, back
    return None


def rounded(yard, order):
    """Close gaps by turnings, one by one, until none can be closed."""
    check_order(yard, order)
    turnings = []
    now = list(order)
    turning = first_turning(yard, now)
    while turning is not None:
        at, back = turning
        now = turned(yard, now, at, back)
        turnings.append((at, back))
        turning = first_turning(yard, now)
    word = "round" if is_round(yard, now) else "stuck"
    return word, turnings, now
