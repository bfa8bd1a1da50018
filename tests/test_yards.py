"""Point [2], yards, and what point [1] says of them."""

import unittest

from denseround.errors import BadYard, YardError
from denseround.yards import Yard, thin
from tests.helpers import all_yards, full, full_ties, halves, path, ring


class Yards(unittest.TestCase):
    def test_one_place(self):
        yard = Yard(1, [])
        self.assertEqual(yard.many(), 1)
        self.assertEqual(yard.ties(), [])
        self.assertIs(yard.is_tied(0, 0), False)
        self.assertEqual(yard.degree(0), 0)

    def test_ties_are_told_as_handed_in_in_their_order(self):
        ties = [(2, 3), (0, 3), (1, 2), (0, 1)]
        yard = Yard(4, ties)
        self.assertEqual(yard.many(), 4)
        self.assertEqual(yard.ties(), [(2, 3), (0, 3), (1, 2), (0, 1)])

    def test_is_tied_both_ways(self):
        yard = Yard(4, [(2, 3), (0, 3)])
        tied = [(one, other) for one in range(4) for other in range(4) if yard.is_tied(one, other)]
        self.assertEqual(tied, [(0, 3), (2, 3), (3, 0), (3, 2)])
        self.assertIs(yard.is_tied(3, 0), True)
        self.assertIs(yard.is_tied(0, 1), False)

    def test_no_place_is_tied_to_itself(self):
        yard = full(5)
        for place in range(5):
            self.assertIs(yard.is_tied(place, place), False)

    def test_degree(self):
        yard = Yard(5, [(0, 4), (1, 4), (2, 4), (1, 2)])
        self.assertEqual([yard.degree(place) for place in range(5)], [1, 2, 2, 0, 3])

    def test_thirty_places(self):
        yard = full(30)
        self.assertEqual(yard.many(), 30)
        self.assertEqual(yard.ties(), full_ties(30))
        self.assertEqual([yard.degree(place) for place in range(30)], [29] * 30)
        self.assertIs(yard.is_tied(29, 0), True)
        bare = Yard(30, [])
        self.assertEqual([bare.degree(place) for place in range(30)], [0] * 30)
        self.assertEqual(thin(bare), full_ties(30))

    def test_places_beyond_the_yard_have_no_ties(self):
        yard = full(3)
        for place in (-1, 3, 40):
            self.assertEqual(yard.degree(place), 0)
            self.assertIs(yard.is_tied(0, place), False)
            self.assertIs(yard.is_tied(place, 0), False)


class Thin(unittest.TestCase):
    def test_all_pairs_that_are_not_tied_rising(self):
        yard = Yard(4, [(2, 3), (0, 3)])
        self.assertEqual(thin(yard), [(0, 1), (0, 2), (1, 2), (1, 3)])

    def test_as_many_ties_as_places_are_not_too_few(self):
        self.assertEqual(thin(ring(4)), [])
        self.assertEqual(thin(ring(5)), [(0, 2), (0, 3), (1, 3), (1, 4), (2, 4)])
        self.assertEqual(thin(halves(30)), [])

    def test_one_tie_less_than_places_is_too_few(self):
        self.assertEqual(thin(path(4)), [(0, 2), (0, 3), (1, 3)])
        self.assertEqual(thin(path(3)), [(0, 2)])

    def test_tied_pairs_are_not_told_however_few_their_ties(self):
        self.assertEqual(thin(Yard(6, [(0, 1)]))[:2], [(0, 2), (0, 3)])

    def test_one_and_two_places(self):
        self.assertEqual(thin(Yard(1, [])), [])
        self.assertEqual(thin(Yard(2, [])), [(0, 1)])
        self.assertEqual(thin(Yard(2, [(0, 1)])), [])

    def test_all_yards_of_four_places(self):
        for yard in all_yards(4):
            ties = yard.ties()
            told = [
                pair
                for pair in full_ties(4)
                if pair not in ties and sum(place in tie for tie in ties for place in pair) < 4
            ]
            self.assertEqual(thin(yard), told)


class Refusals(unittest.TestCase):
    def assert_refused(self, many, ties, at, why):
        with self.assertRaises(YardError) as caught:
            Yard(many, ties)
        self.assertIs(caught.exception.__class__, BadYard)
        self.assertEqual((caught.exception.at, caught.exception.why), (at, why))

    def test_too_few_and_too_many_places(self):
        self.assert_refused(0, [], 0, "many")
        self.assert_refused(31, [], 0, "many")
        self.assert_refused(-1, [], 0, "many")
        self.assert_refused(31, [(0, 1), (1, 2)], 0, "many")

    def test_ties_of_no_places_of_the_yard(self):
        self.assert_refused(3, [(0, 3)], 0, "place")
        self.assert_refused(3, [(0, 1), (-1, 2)], 1, "place")
        self.assert_refused(3, [(0, 1), (1, 2), (3, 4)], 2, "place")
        self.assert_refused(1, [(0, 1)], 0, "place")
        self.assert_refused(30, [(0, 29), (0, 30)], 1, "place")

    def test_ties_of_the_same_place(self):
        self.assert_refused(3, [(0, 1), (1, 1)], 1, "place")
        self.assert_refused(3, [(0, 0)], 0, "place")

    def test_ties_that_are_not_rising(self):
        self.assert_refused(3, [(1, 0)], 0, "place")
        self.assert_refused(3, [(0, 1), (0, 2), (2, 1)], 2, "place")

    def test_ties_told_twice(self):
        self.assert_refused(3, [(0, 1), (0, 1)], 1, "twice")
        self.assert_refused(4, [(2, 3), (0, 1), (1, 2), (0, 1)], 3, "twice")

    def test_of_two_things_wrong_the_first_one_is_told(self):
        self.assert_refused(0, [(1, 0)], 0, "many")
        self.assert_refused(31, [(0, 1), (0, 1)], 0, "many")
        self.assert_refused(3, [(0, 1), (0, 1), (0, 3)], 1, "twice")
        self.assert_refused(3, [(0, 1), (0, 3), (0, 1)], 1, "place")
        self.assert_refused(3, [(0, 1), (1, 0), (0, 1)], 1, "place")
        self.assert_refused(3, [(1, 1), (1, 1)], 0, "place")


class NothingKept(unittest.TestCase):
    def test_ties_handed_in_stay_the_same(self):
        ties = [(1, 2), (0, 1)]
        yard = Yard(3, ties)
        thin(yard)
        self.assertEqual(ties, [(1, 2), (0, 1)])

    def test_refused_ties_stay_the_same(self):
        ties = [(1, 2), (0, 1), (1, 2)]
        with self.assertRaises(BadYard):
            Yard(3, ties)
        self.assertEqual(ties, [(1, 2), (0, 1), (1, 2)])

    def test_a_change_of_what_was_handed_in_changes_no_yard(self):
        ties = [(1, 2), (0, 1)]
        yard = Yard(3, ties)
        ties[0] = (0, 2)
        ties.append((1, 2))
        self.assert_is_the_path(yard)

    def test_a_change_of_what_was_given_back_changes_no_yard(self):
        yard = Yard(3, [(1, 2), (0, 1)])
        yard.ties().append((0, 2))
        yard.ties().clear()
        thin(yard).clear()
        self.assert_is_the_path(yard)

    def assert_is_the_path(self, yard):
        self.assertEqual(yard.ties(), [(1, 2), (0, 1)])
        self.assertEqual([yard.degree(place) for place in range(3)], [1, 2, 1])
        self.assertIs(yard.is_tied(0, 2), False)
        self.assertIs(yard.is_tied(2, 1), True)
        self.assertEqual(thin(yard), [(0, 2)])


if __name__ == "__main__":
    unittest.main()
