"""Point [10], rounds told and counted, and what points [1] and [9] say of them."""

import unittest
from copy import deepcopy

from denseround.errors import TooMany
from denseround.orders import is_round
from denseround.parting import parting
from denseround.rounds import counted, is_shown, round_of
from denseround.yards import Yard
from tests.helpers import (
    all_rounds, all_yards, full, halves, path, ring, some_yards, two_rings, two_stars,
    two_triangles,
)

# Each of the places 8, 9 and 10 has two ties, one of them to place 11, which so would
# need three ties in a round.
THREE_ARMS = Yard(
    12, full(8).ties() + [(0, 8), (1, 9), (2, 10), (8, 11), (9, 11), (10, 11)]
)

# A yard without a round and a parting, in which any tie more brings a round.
CLOSE_TO_A_ROUND = Yard(12, [
    (0, 3), (0, 4), (0, 7), (0, 9), (1, 4), (1, 7), (1, 9), (2, 4), (2, 6), (2, 7), (2, 9), (3, 4),
    (3, 5), (3, 6), (3, 7), (3, 9), (4, 5), (4, 6), (4, 7), (4, 8), (4, 9), (4, 10), (4, 11), (5, 6),
    (5, 7), (5, 8), (5, 9), (6, 7), (6, 9), (7, 8), (7, 9), (7, 10), (7, 11), (8, 9), (9, 10), (9, 11),
    (10, 11),
])


def renamed(yard, names):
    """The same yard with other names for its places, its ties told the other way round."""
    ties = [tuple(sorted((names[one], names[other]))) for one, other in yard.ties()]
    return Yard(yard.many(), ties[::-1])


class RoundOf(unittest.TestCase):
    def test_the_only_round(self):
        self.assertEqual(round_of(full(3)), ("round", [0, 1, 2]))
        self.assertEqual(round_of(ring(6)), ("round", [0, 1, 2, 3, 4, 5]))
        self.assertEqual(round_of(Yard(4, [(0, 1), (0, 2), (1, 3), (2, 3)])), ("round", [0, 1, 3, 2]))

    def test_the_least_of_several_rounds(self):
        self.assertEqual(round_of(full(5)), ("round", [0, 1, 2, 3, 4]))
        self.assertEqual(round_of(halves(6)), ("round", [0, 3, 1, 4, 2, 5]))
        yard = Yard(5, [(0, 1), (0, 4), (1, 3), (3, 4), (1, 2), (2, 3), (2, 4), (0, 2)])
        self.assertEqual(round_of(yard), ("round", [0, 1, 2, 3, 4]))
        fewer = Yard(5, [(0, 1), (0, 4), (1, 3), (3, 4), (2, 3), (2, 4), (0, 2)])
        self.assertEqual(round_of(fewer), ("round", [0, 1, 3, 2, 4]))

    def test_the_least_of_all_rounds(self):
        for yard in (*all_yards(3), *all_yards(4), *all_yards(5), *some_yards(7, 80)):
            found = all_rounds(yard)
            if found:
                self.assertEqual(round_of(yard), ("round", min(found)))
            else:
                self.assertEqual(round_of(yard)[0], "none")

    def test_one_and_two_places(self):
        for yard in (Yard(1, []), Yard(2, []), Yard(2, [(0, 1)])):
            self.assertEqual(round_of(yard), ("none", ("small",)))

    def test_places_whose_going_parts_the_yard(self):
        self.assertEqual(round_of(path(3)), ("none", ("parted", [1])))
        self.assertEqual(round_of(two_stars()), ("none", ("parted", [0, 1])))
        self.assertEqual(round_of(two_triangles()), ("none", ("parted", [0])))
        self.assertEqual(round_of(Yard(3, [])), ("none", ("parted", [0])))
        self.assertEqual(round_of(path(12)), ("none", ("parted", [1])))

    def test_what_parting_tells_where_it_tells_any(self):
        for yard in (*all_yards(3), *all_yards(4), *all_yards(5), *some_yards(7, 80)):
            if parting(yard) is not None:
                self.assertEqual(round_of(yard), ("none", ("parted", parting(yard))))

    def test_a_tree_of_cases_where_parting_tells_none(self):
        arms = Yard(7, [(0, 1), (0, 2), (1, 2), (0, 3), (1, 4), (2, 5), (3, 6), (4, 6), (5, 6)])
        for yard in (two_rings(), arms, THREE_ARMS, CLOSE_TO_A_ROUND):
            self.assertIsNone(parting(yard))
            word, paper = round_of(yard)
            self.assertEqual((word, paper[0], len(paper)), ("none", "cases", 2))
            self.assertIs(is_shown(yard, paper), True)

    def test_a_tree_of_cases_whatever_the_places_are_called(self):
        for step in (3, 7, 9):
            yard = renamed(two_rings(), [place * step % 10 for place in range(10)])
            word, paper = round_of(yard)
            self.assertEqual((word, paper[0]), ("none", "cases"))
            self.assertIs(is_shown(yard, paper), True)
            self.assertIs(is_shown(full(10), paper), False)

    def test_each_paper_told_is_shown(self):
        small = [Yard(1, []), Yard(2, []), Yard(2, [(0, 1)])]
        for yard in (*small, *all_yards(3), *all_yards(4), *all_yards(5), *some_yards(8, 200)):
            word, told = round_of(yard)
            if word == "none":
                self.assertIs(is_shown(yard, told), True)
            else:
                self.assertTrue(is_round(yard, told))

    def test_twelve_places_are_told(self):
        self.assertEqual(round_of(full(12)), ("round", list(range(12))))
        self.assertEqual(round_of(ring(12)), ("round", list(range(12))))
        self.assertEqual(
            round_of(halves(12)), ("round", [0, 6, 1, 7, 2, 8, 3, 9, 4, 10, 5, 11])
        )

    def test_more_than_twelve_places_are_too_many(self):
        for yard in (ring(13), path(13), Yard(13, []), full(30)):
            with self.assertRaises(TooMany):
                round_of(yard)

    def test_the_order_and_the_places_told_may_be_changed(self):
        yard = full(4)
        round_of(yard)[1].append(0)
        self.assertEqual(round_of(yard), ("round", [0, 1, 2, 3]))
        parted = two_stars()
        round_of(parted)[1][1].clear()
        self.assertEqual(round_of(parted), ("none", ("parted", [0, 1])))
        self.assertEqual(yard.ties() + parted.ties(), full(4).ties() + two_stars().ties())

    def test_rings_in_a_tree_may_be_changed(self):
        before = deepcopy(round_of(CLOSE_TO_A_ROUND))
        lists = [places for places in rings_of(before[1][1]) if isinstance(places, list)]
        told = round_of(CLOSE_TO_A_ROUND)
        changed = [places for places in rings_of(told[1][1]) if isinstance(places, list)]
        for places in changed:
            places.clear()
        self.assertEqual(len(changed), len(lists))
        self.assertEqual(round_of(CLOSE_TO_A_ROUND), before)


def rings_of(node):
    """All places of rings in a tree of cases."""
    if node[0] == "tie":
        return rings_of(node[2]) + rings_of(node[3])
    return [node[1]] if node[0] == "ring" else []


class Counted(unittest.TestCase):
    def test_no_round(self):
        for yard in (
            Yard(1, []), Yard(2, []), Yard(2, [(0, 1)]), Yard(3, []), path(3), path(12), two_stars(),
            two_triangles(), two_rings(), THREE_ARMS, CLOSE_TO_A_ROUND, Yard(12, []),
        ):
            self.assertEqual(counted(yard), 0)

    def test_one_ring(self):
        for many in range(3, 13):
            self.assertEqual(counted(ring(many)), 1)

    def test_all_ties(self):
        numbers = [1, 3, 12, 60, 360, 2520, 20160, 181440, 1814400, 19958400]
        self.assertEqual([counted(full(many)) for many in range(3, 13)], numbers)

    def test_two_halves(self):
        self.assertEqual([counted(halves(many)) for many in (4, 6, 8)], [1, 6, 72])

    def test_all_rounds_counted_once(self):
        for yard in (*all_yards(3), *all_yards(4), *all_yards(5), *some_yards(7, 80)):
            self.assertEqual(counted(yard), len(all_rounds(yard)) // 2)

    def test_as_many_whatever_the_places_are_called_and_however_the_ties_stand(self):
        for yard in some_yards(8, 60):
            for names in ([7, 6, 5, 4, 3, 2, 1, 0], [3, 6, 1, 4, 7, 2, 5, 0]):
                self.assertEqual(counted(renamed(yard, names)), counted(yard))
            self.assertEqual(counted(Yard(8, yard.ties()[3:] + yard.ties()[:3])), counted(yard))

    def test_no_fewer_with_a_tie_more(self):
        half = halves(8).ties()
        ties = half + [tie for tie in full(8).ties() if tie not in half]
        numbers = [counted(Yard(8, ties[:count])) for count in range(len(ties) + 1)]
        self.assertEqual(numbers, sorted(numbers))
        self.assertEqual((numbers[0], numbers[16], numbers[-1]), (0, 72, 2520))

    def test_a_tie_more_brings_rounds(self):
        for tie in ((0, 2), (0, 6), (5, 6)):
            self.assertGreater(counted(Yard(10, two_rings().ties() + [tie])), 0)

    def test_more_than_none_just_where_a_round_is_told(self):
        for yard in (*all_yards(5), *some_yards(9, 60)):
            self.assertEqual(counted(yard) > 0, round_of(yard)[0] == "round")

    def test_more_than_twelve_places_are_too_many(self):
        for yard in (ring(13), path(13), Yard(13, []), full(30)):
            with self.assertRaises(TooMany):
                counted(yard)

    def test_asked_again_it_tells_the_same(self):
        yard = halves(8)
        self.assertEqual([counted(yard), counted(ring(8)), counted(yard)], [72, 1, 72])
        self.assertEqual(yard.ties(), halves(8).ties())


if __name__ == "__main__":
    unittest.main()
