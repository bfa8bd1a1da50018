"""Point [9], papers and their nodes, and what point [1] says of them."""

import unittest
from copy import deepcopy
from itertools import product

from denseround.rounds import is_shown
from denseround.yards import Yard
from tests.helpers import (
    all_rounds, all_yards, full, path, ring, two_rings, two_stars, two_triangles,
)

# Three ties of the place 0 in are too many, and each one out leaves another place too few.
STAR_TREE = (
    "tie", (0, 2),
    ("tie", (0, 3), ("tie", (0, 4), ("three", 0), ("few", 4)), ("few", 3)),
    ("few", 2),
)

# Of two rings of three places each tie is in, as its places have no other ones.
RING_TREE = (
    "tie", (0, 1),
    ("tie", (1, 2), ("tie", (0, 2), ("ring", [0, 1, 2]), ("few", 0)), ("few", 1)),
    ("few", 0),
)


def with_leaf(ties, leaf, place):
    """A tree with all these ties in at the leaf, and elsewhere few ties of the place."""
    node = leaf
    for tie in reversed(ties):
        node = ("tie", tie, node, ("few", place))
    return node


class Papers(unittest.TestCase):
    def assert_shown(self, yard, paper):
        self.assertIs(is_shown(yard, paper), True)

    def assert_not_shown(self, yard, paper):
        self.assertIs(is_shown(yard, paper), False)

    def test_small(self):
        for yard in (Yard(1, []), Yard(2, []), Yard(2, [(0, 1)])):
            self.assert_shown(yard, ("small",))
        for yard in (Yard(3, []), full(3), path(4), full(30)):
            self.assert_not_shown(yard, ("small",))

    def test_parted_shows(self):
        self.assert_shown(path(5), ("parted", [2]))
        self.assert_shown(path(5), ("parted", (2,)))
        self.assert_shown(path(5), ("parted", [3, 1]))
        self.assert_shown(two_stars(), ("parted", (1, 0)))
        self.assert_shown(two_triangles(), ("parted", [4]))

    def test_parted_by_places_that_leave_too_few_groups(self):
        self.assert_not_shown(path(5), ("parted", [0]))
        self.assert_not_shown(path(5), ("parted", [1, 2]))
        self.assert_not_shown(two_stars(), ("parted", [0]))
        self.assert_not_shown(two_stars(), ("parted", [0, 1, 2]))
        self.assert_not_shown(full(4), ("parted", (0, 1)))
        self.assert_not_shown(path(5), ("parted", [0, 1, 2, 3, 4]))

    def test_parted_by_no_place(self):
        for yard in (path(5), two_triangles(), Yard(3, [])):
            self.assert_not_shown(yard, ("parted", []))
            self.assert_not_shown(yard, ("parted", ()))

    def test_parted_by_a_place_twice(self):
        yard = Yard(5, [(0, 1), (0, 2), (0, 3), (0, 4)])
        self.assert_shown(yard, ("parted", [0]))
        self.assert_not_shown(yard, ("parted", [0, 0]))
        self.assert_not_shown(yard, ("parted", (0, 1, 0)))

    def test_parted_by_a_number_that_is_no_place(self):
        yard = Yard(5, [(0, 1), (0, 2), (0, 3), (0, 4)])
        for number in (-1, -5, 5, 31):
            self.assert_not_shown(yard, ("parted", [0, number]))
            self.assert_not_shown(yard, ("parted", (number,)))
            self.assert_not_shown(yard, ("parted", [number, 0]))
        for number in (-1, -6, 6, 31):
            self.assert_not_shown(two_triangles(), ("parted", [number]))
        self.assert_shown(yard, ("parted", [0, 4]))

    def test_parted_one_and_two_places(self):
        self.assert_not_shown(Yard(1, []), ("parted", [0]))
        self.assert_not_shown(Yard(2, []), ("parted", [0]))
        self.assert_not_shown(Yard(2, []), ("parted", [0, 1]))

    def test_cases_of_fewer_than_three_places(self):
        for yard in (Yard(1, []), Yard(2, []), Yard(2, [(0, 1)])):
            self.assert_not_shown(yard, ("cases", ("few", 0)))
        self.assert_not_shown(
            Yard(2, [(0, 1)]), ("cases", ("tie", (0, 1), ("few", 0), ("few", 0)))
        )
        self.assert_shown(Yard(3, []), ("cases", ("few", 0)))

    def test_papers_of_another_length_or_word(self):
        for paper in (
            (), ("small", 0), ("small", ()), ("Small",), ("",), ("parted",), ("parted", [1], 1),
            ("Parted", [1]), ("cases",), ("cases", ("few", 0), ("few", 0)), ("case", ("few", 0)),
            ("few", 0), ("three", 1), ("ring", [0, 1, 2]), ("round", [0, 1, 2]), ("none", ("small",)),
            ("tie", (0, 1), ("few", 0), ("few", 0)), ("few",), ("tie",), (0,), (1, [1]),
        ):
            for yard in (path(5), Yard(2, []), Yard(1, [])):
                with self.subTest(paper=paper):
                    self.assert_not_shown(yard, paper)

    def test_a_paper_stays_as_it_was(self):
        for yard, paper in (
            (path(5), ("parted", [3, 1])),
            (path(5), ("parted", [3, 3])),
            (two_stars(), ("cases", STAR_TREE)),
            (two_triangles(), ("cases", RING_TREE)),
            (full(5), ("cases", RING_TREE)),
        ):
            before = deepcopy(paper)
            ties = yard.ties()
            told = is_shown(yard, paper)
            self.assertEqual(paper, before)
            self.assertEqual(yard.ties(), ties)
            self.assertIs(is_shown(yard, paper), told)


class Nodes(unittest.TestCase):
    def assert_shown(self, yard, node):
        self.assertIs(is_shown(yard, ("cases", node)), True)

    def assert_not_shown(self, yard, node):
        self.assertIs(is_shown(yard, ("cases", node)), False)

    def test_whole_trees(self):
        self.assert_shown(two_stars(), STAR_TREE)
        self.assert_shown(two_triangles(), RING_TREE)
        self.assert_not_shown(full(5), STAR_TREE)
        self.assert_not_shown(full(6), RING_TREE)

    def test_few_of_a_place_with_few_ties(self):
        self.assert_shown(path(4), ("few", 0))
        self.assert_shown(path(4), ("few", 3))
        self.assert_not_shown(path(4), ("few", 1))
        self.assert_shown(Yard(3, [(0, 1)]), ("few", 2))

    def test_few_of_a_place_with_ties_out(self):
        yard = two_stars()
        self.assert_shown(yard, ("tie", (0, 2), STAR_TREE[2], ("few", 2)))
        self.assert_not_shown(yard, ("tie", (0, 2), STAR_TREE[2], ("few", 0)))
        self.assert_not_shown(yard, ("tie", (0, 2), STAR_TREE[2], ("few", 3)))

    def test_few_with_ties_in_which_are_not_out(self):
        self.assert_not_shown(two_stars(), ("tie", (0, 2), ("few", 2), ("few", 2)))
        self.assert_not_shown(ring(4), with_leaf([(0, 1), (0, 3)], ("few", 0), 0))

    def test_few_just_two_ties_that_are_not_out(self):
        yard = Yard(4, [(0, 1), (0, 2), (0, 3), (1, 2)])
        self.assert_shown(yard, ("tie", (0, 1), ("few", 3), ("few", 1)))
        self.assert_not_shown(yard, ("tie", (0, 1), ("few", 3), ("few", 0)))
        out_twice = ("tie", (0, 2), ("few", 3), ("few", 0))
        self.assert_shown(yard, ("tie", (0, 1), ("few", 3), out_twice))

    def test_three_just_of_a_place_with_three_ties_in(self):
        yard = Yard(5, [(0, 1), (0, 2), (0, 3), (1, 2)])
        ins = [(0, 1), (0, 2), (0, 3)]
        self.assert_shown(yard, with_leaf(ins, ("three", 0), 4))
        for place in (1, 2, 3, 4):
            self.assert_not_shown(yard, with_leaf(ins, ("three", place), 4))
        self.assert_not_shown(yard, with_leaf(ins[:2], ("three", 0), 4))
        self.assert_not_shown(yard, ("three", 0))

    def test_three_of_a_place_with_ties_out(self):
        yard = Yard(5, [(0, 1), (0, 2), (0, 3), (1, 2)])
        out = ("tie", (0, 3), ("three", 0), ("three", 0))
        self.assert_not_shown(yard, with_leaf([(0, 1), (0, 2)], out, 4))

    def test_three_of_a_place_with_more_ties_in(self):
        yard = Yard(6, [(0, 4), (1, 4), (2, 4), (3, 4)])
        self.assert_shown(yard, with_leaf(yard.ties(), ("three", 4), 5))

    def test_numbers_that_are_no_places(self):
        for number in (-1, -4, 4, 31):
            self.assert_not_shown(path(4), ("few", number))
            self.assert_not_shown(Yard(4, []), ("few", number))
            self.assert_not_shown(path(4), ("three", number))
            ins = [(0, 1), (1, 2)]
            self.assert_not_shown(path(4), with_leaf(ins, ("ring", [0, 1, number]), 0))
        self.assert_not_shown(two_triangles(), RING_TREE[:3] + (("few", 6),))

    def test_ring(self):
        yard = Yard(6, [(0, 1), (0, 3), (1, 2), (2, 3)])
        ins = yard.ties()
        for places in ([0, 1, 2, 3], (0, 1, 2, 3), [2, 1, 0, 3], (3, 0, 1, 2)):
            self.assert_shown(yard, with_leaf(ins, ("ring", places), 5))
        self.assert_not_shown(yard, with_leaf(ins, ("ring", [0, 2, 1, 3]), 5))
        self.assert_not_shown(yard, with_leaf(ins, ("ring", [0, 1, 2]), 5))

    def test_ring_of_two_places_or_fewer(self):
        yard = Yard(5, [(0, 1), (0, 2), (1, 2)])
        for places in ([0, 1], (1, 2), [0], [], ()):
            self.assert_not_shown(yard, with_leaf(yard.ties(), ("ring", places), 4))
        self.assert_shown(yard, with_leaf(yard.ties(), ("ring", [2, 0, 1]), 4))

    def test_ring_of_all_places(self):
        for many in (3, 4, 5):
            tied = ring(many)
            ties = tied.ties()
            node = ("ring", list(range(many)))
            for at, tie in enumerate(reversed(ties)):
                node = ("tie", tie, node, ("few", tie[0]))
            self.assert_not_shown(tied, node)
            wider = Yard(many + 1, ties)
            self.assert_shown(wider, with_leaf(ties, ("ring", list(range(many))), many))

    def test_ring_of_all_places_but_for_one_that_stands_twice(self):
        yard = Yard(7, [(0, 1), (0, 2), (1, 2)])
        for places in ([0, 1, 2, 0, 1, 2], [0, 1, 2, 1], [0, 1, 0, 2], [0, 0, 1, 2], [0, 1, 2, 0]):
            self.assert_not_shown(yard, with_leaf(yard.ties(), ("ring", places), 6))

    def test_ring_with_a_tie_that_is_not_in(self):
        yard = Yard(5, [(0, 1), (0, 2), (1, 2), (2, 3)])
        ins = [(0, 1), (0, 2), (1, 2)]
        for left in ins:
            two = [tie for tie in ins if tie != left]
            self.assert_not_shown(yard, with_leaf(two, ("ring", [0, 1, 2]), 4))
            out = ("tie", left, ("ring", [0, 1, 2]), ("ring", [0, 1, 2]))
            self.assert_not_shown(yard, with_leaf(two, out, 4))
        self.assert_not_shown(yard, with_leaf([(0, 1), (1, 2), (2, 3)], ("ring", [0, 1, 2, 3]), 4))
        self.assert_not_shown(yard, ("ring", [0, 1, 2]))

    def test_tie_of_which_something_is_said_already(self):
        yard = path(4)
        few = ("few", 0)
        self.assert_shown(yard, ("tie", (1, 2), few, few))
        self.assert_not_shown(yard, ("tie", (1, 2), ("tie", (1, 2), few, few), few))
        self.assert_not_shown(yard, ("tie", (1, 2), few, ("tie", (1, 2), few, few)))
        between = ("tie", (2, 3), ("tie", (1, 2), few, few), few)
        self.assert_not_shown(yard, ("tie", (1, 2), between, few))
        self.assert_not_shown(yard, ("tie", (1, 2), few, between))

    def test_tie_said_in_the_other_case_alone(self):
        few = ("few", 0)
        below = ("tie", (2, 3), few, few)
        self.assert_shown(path(4), ("tie", (1, 2), below, below))

    def test_tie_that_is_no_tie_of_the_yard(self):
        few = ("few", 0)
        for tie in ((0, 2), (0, 3), (0, 4), (-1, 0), (2, 2), (30, 31)):
            self.assert_not_shown(path(4), ("tie", tie, few, few))

    def test_tie_told_the_other_way_round(self):
        few = ("few", 0)
        self.assert_not_shown(path(4), ("tie", (2, 1), few, few))
        self.assert_not_shown(path(4), ("tie", (1, 2), ("tie", (2, 1), few, few), few))
        self.assert_not_shown(two_stars(), ("tie", (2, 0)) + STAR_TREE[2:])

    def test_only_one_of_the_two_nodes_shows(self):
        few = ("few", 0)
        for wrong in (("few", 4), ("three", 1), ("ring", [1, 2, 3]), ("few",), ()):
            self.assert_not_shown(path(4), ("tie", (1, 2), few, wrong))
            self.assert_not_shown(path(4), ("tie", (1, 2), wrong, few))
            deep = ("tie", (2, 3), few, wrong)
            self.assert_not_shown(path(4), ("tie", (1, 2), few, deep))
            self.assert_not_shown(path(4), ("tie", (1, 2), deep, few))

    def test_the_first_node_is_the_one_with_the_tie_in(self):
        yard = two_triangles()
        self.assert_not_shown(yard, RING_TREE[:2] + (RING_TREE[3], RING_TREE[2]))
        self.assert_not_shown(two_stars(), ("tie", (0, 2), ("few", 2), STAR_TREE[2]))

    def test_nodes_of_another_length_or_word(self):
        few = ("few", 0)
        for node in (
            (), ("few",), ("few", 0, 0), ("Few", 0), ("fews", 0), ("three",), ("three", 0, 0), ("ring",),
            ("ring", [0, 1, 2], 0), ("tie",), ("tie", (1, 2)), ("tie", (1, 2), few),
            ("tie", (1, 2), few, few, few), ("Tie", (1, 2), few, few), ("small",), ("parted", [1]),
            ("cases", few), ("", 0), (0,), (0, 0),
        ):
            with self.subTest(node=node):
                self.assert_not_shown(path(4), node)
                self.assert_not_shown(path(4), ("tie", (1, 2), few, node))
                self.assert_not_shown(path(4), ("tie", (1, 2), node, few))
                self.assert_not_shown(Yard(3, []), node)

    def test_more_than_twelve_places(self):
        self.assert_shown(path(30), ("few", 29))
        self.assert_not_shown(path(30), ("few", 28))
        self.assertIs(is_shown(path(30), ("parted", [15])), True)
        self.assertIs(is_shown(full(30), ("parted", [15])), False)
        self.assertIs(is_shown(path(13), ("small",)), False)

    def test_trees_with_a_row_of_nodes_for_each_tie(self):
        inner = full(29)
        yard = Yard(30, inner.ties() + [(0, 29)])
        node = ("few", 29)
        for tie in inner.ties():
            node = ("tie", tie, ("few", 29), node)
        self.assert_shown(yard, node)
        self.assert_not_shown(yard, ("tie", (0, 1), ("few", 29), node))

    def test_the_tree_of_two_rings(self):
        self.assert_not_shown(two_rings(), ("ring", [0, 1, 2, 3, 4]))
        self.assert_not_shown(two_rings(), ("three", 0))

    def test_nothing_is_shown_where_there_is_a_round(self):
        leaves = [("few", place) for place in range(4)] + [("three", place) for place in range(4)]
        leaves += [("ring", [0, 1, 2]), ("ring", [0, 1, 3]), ("ring", [0, 1, 2, 3])]
        for yard in all_yards(4):
            if all_rounds(yard):
                for tie in yard.ties():
                    for one, other in product(leaves, leaves):
                        self.assert_not_shown(yard, ("tie", tie, one, other))


if __name__ == "__main__":
    unittest.main()
