"""Point [8], groups and partings, and what points [1] and [10] say of them."""

import unittest
from itertools import combinations

from denseround.errors import TooMany
from denseround.parting import groups_without, parting
from denseround.yards import Yard
from tests.helpers import (
    all_rounds, all_yards, full, halves, path, ring, some_yards, two_rings, two_stars,
    two_triangles,
)


def joined_groups(yard, places):
    """The groups of the other places, joined tie by tie."""
    groups = [{place} for place in range(yard.many()) if place not in places]
    for tie in yard.ties():
        met = [group for group in groups if group & set(tie)]
        if not set(tie) & set(places):
            groups = [group for group in groups if group not in met] + [set().union(*met)]
    return sorted(sorted(group) for group in groups)


class GroupsWithout(unittest.TestCase):
    def test_of_no_place(self):
        self.assertEqual(groups_without(full(4), []), [[0, 1, 2, 3]])
        self.assertEqual(groups_without(two_triangles(), []), [[0, 1, 2], [3, 4, 5]])
        self.assertEqual(groups_without(Yard(3, []), []), [[0], [1], [2]])

    def test_of_some_places(self):
        self.assertEqual(groups_without(path(5), [2]), [[0, 1], [3, 4]])
        self.assertEqual(groups_without(path(5), [1, 3]), [[0], [2], [4]])
        self.assertEqual(groups_without(two_stars(), [0, 1]), [[2], [3], [4]])
        self.assertEqual(groups_without(two_stars(), [2, 3]), [[0, 1, 4]])

    def test_of_all_places(self):
        self.assertEqual(groups_without(full(4), [0, 1, 2, 3]), [])
        self.assertEqual(groups_without(Yard(1, []), [0]), [])

    def test_one_and_two_places(self):
        self.assertEqual(groups_without(Yard(1, []), []), [[0]])
        self.assertEqual(groups_without(Yard(2, []), []), [[0], [1]])
        self.assertEqual(groups_without(Yard(2, [(0, 1)]), []), [[0, 1]])
        self.assertEqual(groups_without(Yard(2, [(0, 1)]), [0]), [[1]])

    def test_places_in_any_order(self):
        self.assertEqual(groups_without(path(7), [5, 0, 3]), [[1, 2], [4], [6]])
        self.assertEqual(groups_without(path(7), [3, 5, 0]), [[1, 2], [4], [6]])

    def test_each_group_rising_and_the_groups_by_their_least_places(self):
        yard = Yard(7, [(4, 6), (0, 4), (3, 5), (1, 5)])
        self.assertEqual(groups_without(yard, []), [[0, 4, 6], [1, 3, 5], [2]])
        self.assertEqual(groups_without(yard, [4]), [[0], [1, 3, 5], [2], [6]])

    def test_thirty_places(self):
        self.assertEqual(groups_without(path(30), [10]), [list(range(10)), list(range(11, 30))])
        self.assertEqual(
            groups_without(halves(30), list(range(15))), [[place] for place in range(15, 30)]
        )
        self.assertEqual(groups_without(Yard(30, []), [29, 0]), [[place] for place in range(1, 29)])
        self.assertEqual(groups_without(ring(30), []), [list(range(30))])

    def test_groups_joined_tie_by_tie(self):
        for yard in (*all_yards(4), *some_yards(7, 50)):
            for size in range(yard.many() + 1):
                for places in combinations(range(yard.many()), size):
                    told = groups_without(yard, list(places))
                    self.assertEqual(told, joined_groups(yard, places))

    def test_nothing_is_kept_or_changed(self):
        yard = path(5)
        places = [3, 1]
        told = groups_without(yard, places)
        told[0].clear()
        self.assertEqual(told[1:], [[2], [4]])
        told.clear()
        self.assertEqual(places, [3, 1])
        self.assertEqual(groups_without(yard, places), [[0], [2], [4]])
        self.assertEqual(yard.ties(), path(5).ties())


def least_parting(yard):
    """The fewest and least places that leave more groups than they are, or None."""
    places = range(yard.many())
    rows = [list(row) for size in places for row in combinations(places, size + 1)]
    found = [row for row in rows if len(joined_groups(yard, row)) > len(row)]
    return min(found, key=lambda row: (len(row), row)) if found else None


class Parting(unittest.TestCase):
    def test_one_place(self):
        self.assertEqual(parting(path(3)), [1])
        self.assertEqual(parting(path(5)), [1])
        self.assertEqual(parting(two_triangles()), [0])
        self.assertEqual(parting(Yard(3, [])), [0])

    def test_more_places(self):
        self.assertEqual(parting(two_stars()), [0, 1])
        self.assertEqual(parting(Yard(7, [(a, b) for a in range(4) for b in range(4, 7)])), [4, 5, 6])

    def test_fewer_places_are_told_ahead_of_lesser_ones(self):
        # Without [0, 5] there are more groups than two, too.
        self.assertEqual(parting(Yard(6, [(0, 5), (1, 5), (2, 5), (3, 5), (4, 5)])), [5])

    def test_the_least_of_as_few_places(self):
        # Without any one place but an end of the path there are two groups.
        self.assertEqual(parting(Yard(5, [(2, 4), (1, 4), (1, 3), (0, 3)])), [1])
        # Without [3, 4], too, there are three groups.
        ties = [(0, 2), (0, 3), (0, 4), (0, 6), (1, 3), (1, 4), (2, 4), (3, 5), (4, 5), (4, 6)]
        self.assertEqual(parting(Yard(7, ties)), [0, 4])

    def test_none(self):
        for yard in (full(3), ring(4), full(12), ring(12), halves(12), two_rings()):
            self.assertIsNone(parting(yard))

    def test_one_and_two_places_have_none(self):
        self.assertIsNone(parting(Yard(1, [])))
        self.assertIsNone(parting(Yard(2, [])))
        self.assertIsNone(parting(Yard(2, [(0, 1)])))

    def test_all_choices_of_places_looked_through(self):
        for yard in (*all_yards(3), *all_yards(4), *all_yards(5), *some_yards(7, 60)):
            self.assertEqual(parting(yard), least_parting(yard))

    def test_there_is_no_round_where_any_is_told(self):
        for yard in all_yards(5):
            if parting(yard) is not None:
                self.assertEqual(all_rounds(yard), [])

    def test_twelve_places_are_told(self):
        self.assertEqual(parting(path(12)), [1])
        sides = [(one, other) for one in range(5) for other in range(5, 12)]
        self.assertEqual(parting(Yard(12, sides)), [0, 1, 2, 3, 4])

    def test_more_than_twelve_places_are_too_many(self):
        for yard in (path(13), full(13), Yard(13, []), ring(30)):
            with self.assertRaises(TooMany):
                parting(yard)

    def test_a_new_list_each_time(self):
        yard = two_stars()
        parting(yard).clear()
        self.assertEqual(parting(yard), [0, 1])
        self.assertEqual(yard.ties(), two_stars().ties())


if __name__ == "__main__":
    unittest.main()
