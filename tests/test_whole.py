"""Point [1], over the whole program: what is told of one yard, of another, and again."""

import unittest
from copy import deepcopy

from denseround.closing import by_closing, closed, opened
from denseround.errors import BadOrder, BadText, BadYard, TooMany
from denseround.notes import read, written
from denseround.orders import gaps, is_round, rounded, turned
from denseround.parting import groups_without, parting
from denseround.rounds import counted, is_shown, round_of
from denseround.yards import Yard, thin
from tests.helpers import full, halves, path, ring, two_rings, two_stars, two_triangles

SOME = (
    full(5), ring(4), halves(6), path(7), two_rings(), two_stars(), two_triangles(), full(12),
    Yard(1, []), Yard(2, [(0, 1)]), Yard(3, []), ring(13), halves(30),
)

PAPERS = (
    ("small",), ("parted", [1]), ("parted", (0, 1)), ("cases", ("few", 0)),
    ("cases", ("tie", (0, 1), ("few", 0), ("ring", [0, 1, 2]))),
)


def told(telling, *given):
    """What is told, or the class of the refusal."""
    try:
        return telling(*given)
    except (BadYard, BadOrder, TooMany, BadText) as refusal:
        return refusal.__class__


def all_told(yard):
    """All that the program tells of a yard."""
    order = list(range(yard.many()))
    leaped = order[::2] + order[1::2]
    tellings = [(telling, yard) for telling in (thin, closed, by_closing, written)]
    tellings += [(telling, yard) for telling in (parting, round_of, counted)]
    tellings += [
        (telling, yard, row)
        for telling in (gaps, is_round, rounded, opened)
        for row in (order, leaped, order[1:])
    ]
    tellings += [(turned, yard, order, 0, back) for back in (0, 1)]
    tellings += [(groups_without, yard, places) for places in ([], order[:1], leaped[:3])]
    tellings += [(is_shown, yard, paper) for paper in PAPERS]
    facts = [yard.many(), yard.ties(), read(written(yard)).ties()]
    facts += [yard.is_tied(one, other) for one in order for other in order]
    return facts + [yard.degree(place) for place in order] + [told(*given) for given in tellings]


def spoil(value):
    """Change all lists that are told, from the innermost ones on."""
    if isinstance(value, (list, tuple)):
        for part in value:
            spoil(part)
    if isinstance(value, list):
        value.append(99)
        value.reverse()


class Whole(unittest.TestCase):
    def test_one_yard_then_another_one_then_the_first_again(self):
        first = [deepcopy(all_told(yard)) for yard in SOME]
        for yard, before in zip(SOME, first):
            for other in SOME[:6]:
                spoil(all_told(other))
                spoil(all_told(yard))
            self.assertEqual(all_told(yard), before)

    def test_another_yard_of_the_same_ties_tells_the_same(self):
        for yard in SOME:
            self.assertEqual(all_told(Yard(yard.many(), yard.ties())), all_told(yard))
            self.assertEqual(all_told(read(written(yard))), all_told(yard))

    def test_nothing_handed_in_is_changed(self):
        for yard in SOME:
            order = list(range(yard.many()))
            places = order[:2]
            papers = deepcopy(PAPERS)
            for telling in (gaps, is_round, rounded, opened):
                told(telling, yard, order)
            told(turned, yard, order, 0, 0)
            groups_without(yard, places)
            for paper in papers:
                is_shown(yard, paper)
            self.assertEqual(order, list(range(yard.many())))
            self.assertEqual(places, order[:2])
            self.assertEqual(papers, PAPERS)

    def test_nothing_handed_in_is_kept(self):
        ties = two_rings().ties()
        yard = Yard(10, ties)
        before = deepcopy(all_told(yard))
        ties.clear()
        self.assertEqual(all_told(yard), before)
        order = [0, 2, 1, 3]
        orders = opened(ring(4), order)
        order.clear()
        self.assertEqual(orders, [[0, 2, 1, 3], [0, 3, 2, 1]])

    def test_yards_do_not_change_by_what_is_asked(self):
        for yard in SOME:
            ties = yard.ties()
            all_told(yard)
            self.assertEqual(yard.ties(), ties)
            self.assertEqual(written(yard), written(Yard(yard.many(), ties)))


if __name__ == "__main__":
    unittest.main()
