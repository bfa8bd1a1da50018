"""A tree of all cases, for a yard that has no round."""


class Said:
    """What is said of the ties, each place with the places it is tied to."""

    def __init__(self, ins, unsaid):
        self.ins = ins
        self.unsaid = unsaid

    def many_not_out(self, place):
        """Tell how many ties of the place aren't out."""
        return len(self.ins[place]) + len(self.unsaid[place])


def nothing_said(yard):
    """Tell the beginning, where nothing is said of any tie."""
    places = list(range(yard.many()))
    tied = [[other for other in places if yard.is_tied(place, other)] for place in places]
    return Said([[] for _ in places], tied)


def said_out(said, tie):
    """Tell what is said where this tie is out, too."""
    unsaid = list(said.unsaid)
    for place in tie:
        unsaid[place] = [other for other in unsaid[place] if other not in tie]
    return Said(said.ins, unsaid)


def said_in(said, tie):
    """Tell what is said where this tie is in, too."""
    one, other = tie
    ins = list(said.ins)
    ins[one] = [*ins[one], other]
    ins[other] = [*ins[other], one]
    return Said(ins, said_out(said, tie).unsaid)


def way_from(ins, first):
    """Tell the places on the way from the first one by ties that are in, no place twice."""
    way = [first]
    onward = ins[first][:1]
    while onward:
        way.append(onward[0])
        onward = [place for place in ins[onward[0]] if place not in way][:1]
    return way


def leaf_of(said):
    """Tell the node that shows at once that there is no round, or None."""
    for place, ins in enumerate(said.ins):
        if said.many_not_out(place) < 2:
            return "few", place
        if len(ins) > 2:
            return "three", place
    for place, ins in enumerate(said.ins):
        way = way_from(said.ins, place)
        if len(ins) == 2 and way[-1] in ins and len(way) > 2:
            return "ring", way
    return None


def barred_tie(said):
    """Tell a tie that shows at once that there is no round if it is in, or None."""
    for place, others in enumerate(said.unsaid):
        ins = said.ins[place]
        if others and len(ins) == 2:
            return place, others[0]
        end = way_from(said.ins, place)[-1]
        if len(ins) == 1 and end in others:
            return place, end
    return None


def tightest_tie(said):
    """Tell a tie of a place that can spare the fewest ones, so that more is settled by it."""
    places = [place for place, others in enumerate(said.unsaid) if others]
    one = min(places, key=said.many_not_out)
    return one, min(said.unsaid[one], key=said.many_not_out)


def node_of(said):
    """Tell the node that shows that there is no round with what is said."""
    leaf = leaf_of(said)
    if leaf is not None:
        return leaf
    # Ties with one short case ahead of others keep the tree small.
    tie = barred_tie(said) or tightest_tie(said)
    rising = (min(tie), max(tie))
    return "tie", rising, node_of(said_in(said, rising)), node_of(said_out(said, rising))


def tree_of(yard):
    """Tell a tree of cases that shows that the yard has no round."""
    return node_of(nothing_said(yard))
