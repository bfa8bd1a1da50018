"""Points [6] and [7], closed yards, and what point [1] says of them."""

import unittest

from denseround.closing import by_closing, closed, opened
from denseround.errors import BadOrder
from denseround.orders import gaps, is_round, turned
from denseround.yards import Yard
from tests.helpers import (
    all_rounds, all_yards, full, full_ties, halves, path, ring, some_yards, two_stars,
)

# The pair (0, 2) gives ties enough to the lesser one (0, 1), and this to two others.
LESSER_PAIRS = Yard(5, [(0, 3), (0, 4), (1, 2), (1, 3), (2, 3), (2, 4)])

# A round of the closed yard of these ties is turned twice, once by the pair (0, 3).
TWICE_TURNED = Yard(5, [(0, 1), (0, 2), (0, 4), (1, 3), (1, 4), (2, 3)])


def enough(many, ties):
    """The pairs that aren't among the ties and have ties enough, rising."""
    degrees = [sum(place in tie for tie in ties) for place in range(many)]
    return [
        (one, other)
        for one, other in full_ties(many)
        if (one, other) not in ties and degrees[one] + degrees[other] >= many
    ]


def closed_by(yard, choose):
    """The pairs that are tied if the choice says which one of those with ties enough."""
    pairs = []
    found = enough(yard.many(), yard.ties())
    while found:
        pairs.append(choose(found))
        found = enough(yard.many(), yard.ties() + pairs)
    return pairs


def with_pairs(yard, pairs):
    return Yard(yard.many(), yard.ties() + pairs)


def closed_yard(yard):
    return with_pairs(yard, closed(yard))


class Closed(unittest.TestCase):
    def test_yards_that_are_closed_already(self):
        for yard in (full(3), full(6), path(4), ring(5), Yard(7, [])):
            self.assertEqual(closed(yard), [])

    def test_one_and_two_places(self):
        self.assertEqual(closed(Yard(1, [])), [])
        self.assertEqual(closed(Yard(2, [])), [])
        self.assertEqual(closed(Yard(2, [(0, 1)])), [])

    def test_all_pairs_are_tied_at_the_end(self):
        self.assertEqual(closed(ring(4)), [(0, 2), (1, 3)])
        self.assertEqual(closed(halves(6)), [(0, 1), (0, 2), (1, 2), (3, 4), (3, 5), (4, 5)])

    def test_some_pairs_are_tied_at_the_end(self):
        yard = Yard(5, [(0, 2), (0, 3), (0, 4), (1, 2), (1, 3)])
        self.assertEqual(closed(yard), [(0, 1)])
        self.assertEqual(closed(two_stars()), [(0, 1)])

    def test_a_pair_that_is_tied_gives_lesser_ones_ties_enough(self):
        self.assertEqual(closed(LESSER_PAIRS), [(0, 2), (0, 1), (1, 4), (3, 4)])

    def test_just_as_many_ties_as_places_are_enough_and_one_fewer_is_not(self):
        self.assertEqual(closed(Yard(4, [(0, 2), (0, 3), (1, 2), (1, 3), (2, 3)])), [(0, 1)])
        self.assertEqual(closed(Yard(4, [(0, 2), (0, 3), (1, 2), (2, 3)])), [])

    def test_thirty_places(self):
        inside = [pair for pair in full_ties(30) if not pair[0] < 15 <= pair[1]]
        self.assertEqual(closed(halves(30)), inside)
        self.assertEqual(closed(full(30)), [])
        self.assertEqual(closed(ring(30)), [])

    def test_each_time_the_least_pair_of_those_with_ties_enough(self):
        for many in (3, 4, 5):
            for yard in all_yards(many):
                self.assertEqual(closed(yard), closed_by(yard, min))
        for yard in some_yards(8, 60):
            self.assertEqual(closed(yard), closed_by(yard, min))

    def test_pairs_taken_in_another_order_come_to_the_same_ties(self):
        def middle(found):
            return found[len(found) // 2]

        for yard in (*all_yards(5), *some_yards(8, 60)):
            for choose in (max, middle):
                self.assertEqual(sorted(closed(yard)), sorted(closed_by(yard, choose)))

    def test_of_the_closed_yard_none_are_told(self):
        for yard in (*all_yards(5), *some_yards(9, 60), halves(30)):
            self.assertEqual(closed(closed_yard(yard)), [])

    def test_the_yard_has_a_round_just_where_the_closed_one_has(self):
        for yard in (*all_yards(4), *all_yards(5), *some_yards(6, 200)):
            self.assertEqual(bool(all_rounds(yard)), bool(all_rounds(closed_yard(yard))))

    def test_a_new_list_each_time_and_the_ties_as_they_were(self):
        yard = LESSER_PAIRS
        ties = yard.ties()
        closed(yard).clear()
        closed(yard).append((0, 3))
        self.assertEqual(closed(yard), [(0, 2), (0, 1), (1, 4), (3, 4)])
        self.assertEqual(yard.ties(), ties)
        self.assertEqual([yard.degree(place) for place in range(5)], [2, 2, 3, 3, 2])


def led_back(yard, order):
    """The orders that point [7] tells, taken from its words."""
    pairs = closed_by(yard, min)
    orders = [list(order)]
    for number in range(len(pairs) - 1, -1, -1):
        ahead = with_pairs(yard, pairs[:number])
        now = orders[-1]
        for at, place in enumerate(now):
            behind = now[(at + 1) % len(now)]
            if {place, behind} == set(pairs[number]):
                row = now[at + 1:] + now[:at + 1]
                backs = [
                    back
                    for back in range(1, len(now) - 1)
                    if ahead.is_tied(row[0], row[back + 1]) and ahead.is_tied(row[-1], row[back])
                ]
                orders.append(turned(yard, now, at, min(backs)))
    return orders


class Opened(unittest.TestCase):
    def test_no_pair_was_tied_anew(self):
        self.assertEqual(opened(full(4), [2, 0, 3, 1]), [[2, 0, 3, 1]])
        self.assertEqual(opened(ring(5), [4, 3, 2, 1, 0]), [[4, 3, 2, 1, 0]])

    def test_no_pair_stands_in_the_order(self):
        self.assertEqual(opened(ring(4), [0, 1, 2, 3]), [[0, 1, 2, 3]])
        self.assertEqual(opened(ring(4), [2, 1, 0, 3]), [[2, 1, 0, 3]])

    def test_a_pair_stands_in_the_order(self):
        self.assertEqual(opened(ring(4), [2, 0, 1, 3]), [[2, 0, 1, 3], [2, 3, 0, 1]])

    def test_a_pair_that_is_gone_by_a_turning_gives_no_order(self):
        # (0, 2) stands in the first order, no longer in the second one.
        self.assertEqual(opened(ring(4), [0, 2, 1, 3]), [[0, 2, 1, 3], [0, 3, 2, 1]])

    def test_a_pair_the_other_way_round(self):
        self.assertEqual(opened(ring(4), [0, 3, 1, 2]), [[0, 3, 1, 2], [2, 1, 0, 3]])

    def test_a_pair_from_the_last_place_to_the_first(self):
        self.assertEqual(opened(ring(4), [1, 0, 2, 3]), [[1, 0, 2, 3], [0, 1, 2, 3]])
        self.assertEqual(opened(ring(4), [3, 2, 0, 1]), [[3, 2, 0, 1], [2, 3, 0, 1]])

    def test_some_pairs_stand_in_the_orders_and_some_do_not(self):
        self.assertEqual(closed(TWICE_TURNED), [(0, 3), (1, 2), (2, 4), (3, 4)])
        self.assertEqual(
            opened(TWICE_TURNED, [0, 1, 2, 3, 4]),
            [[0, 1, 2, 3, 4], [0, 4, 1, 2, 3], [3, 2, 0, 4, 1]],
        )

    def test_any_round_of_the_closed_yard_is_led_back(self):
        for yard in (*all_yards(4), *all_yards(5), *some_yards(6, 40)):
            for order in all_rounds(closed_yard(yard)):
                self.assert_led_back(yard, order)
                self.assert_led_back(yard, order[2:] + order[:2])

    def test_large_yards(self):
        self.assert_led_back(halves(30), list(range(30)))
        self.assert_led_back(halves(30), [place * 7 % 30 for place in range(30)])
        self.assert_led_back(ring(30), list(range(30)))

    def assert_led_back(self, yard, order):
        orders = opened(yard, order)
        self.assertEqual(orders, led_back(yard, order))
        self.assertTrue(is_round(yard, orders[-1]))

    def test_no_order(self):
        for order in (
            [], [0, 1, 2], [0, 1, 3], [0, 1, 2, 2], [0, 1, 2, 4], [-1, 0, 1, 2], [0, 1, 2, 3, 3],
            [0, 1, 2, 3, 4],
        ):
            with self.subTest(order=order), self.assertRaises(BadOrder):
                opened(ring(4), order)

    def test_an_order_with_a_gap_in_the_closed_yard(self):
        for yard, order in (
            (path(4), [0, 1, 2, 3]),
            (ring(5), [0, 2, 1, 3, 4]),
            (Yard(5, [(0, 2), (0, 3), (0, 4), (1, 2), (1, 3)]), [0, 1, 2, 3, 4]),
        ):
            self.assertTrue(gaps(closed_yard(yard), order))
            with self.assertRaises(BadOrder):
                opened(yard, order)

    def test_one_and_two_places(self):
        for yard, order in (
            (Yard(1, []), [0]), (Yard(2, []), [0, 1]), (Yard(2, [(0, 1)]), [1, 0]), (Yard(2, []), []),
        ):
            with self.assertRaises(BadOrder):
                opened(yard, order)

    def test_the_orders_told_are_new_lists(self):
        order = [0, 1, 2, 3, 4]
        told = opened(TWICE_TURNED, order)
        told[0].clear()
        self.assertEqual(told[1:], [[0, 4, 1, 2, 3], [3, 2, 0, 4, 1]])
        told[1].append(7)
        self.assertEqual(told[2], [3, 2, 0, 4, 1])
        told.clear()
        self.assertEqual(order, [0, 1, 2, 3, 4])
        self.assertEqual(opened(TWICE_TURNED, order), led_back(TWICE_TURNED, order))
        self.assertEqual(len(TWICE_TURNED.ties()), 6)

    def test_the_only_order_told_is_no_list_that_was_handed_in(self):
        order = [0, 1, 2, 3]
        opened(full(4), order)[0].clear()
        self.assertEqual(order, [0, 1, 2, 3])


class ByClosing(unittest.TestCase):
    def test_all_pairs_are_tied_in_the_closed_yard(self):
        self.assertEqual(by_closing(full(3)), [0, 1, 2])
        self.assertEqual(by_closing(ring(4)), [0, 1, 2, 3])
        self.assertEqual(by_closing(TWICE_TURNED), [3, 2, 0, 4, 1])

    def test_not_all_pairs_are_tied_in_the_closed_yard(self):
        for yard in (path(3), path(4), ring(5), Yard(5, []), two_stars()):
            self.assertIsNone(by_closing(yard))
        self.assertIsNone(by_closing(Yard(5, [(0, 2), (0, 3), (0, 4), (1, 2), (1, 3)])))

    def test_one_and_two_places(self):
        self.assertIsNone(by_closing(Yard(1, [])))
        self.assertIsNone(by_closing(Yard(2, [])))
        self.assertIsNone(by_closing(Yard(2, [(0, 1)])))

    def test_the_last_order_that_opened_tells(self):
        for many in (3, 4, 5):
            for yard in all_yards(many):
                told = None
                if len(yard.ties() + closed(yard)) == many * (many - 1) // 2:
                    told = led_back(yard, range(many))[-1]
                self.assertEqual(by_closing(yard), told)

    def test_thirty_places(self):
        self.assertEqual(by_closing(full(30)), list(range(30)))
        self.assertEqual(by_closing(halves(30)), opened(halves(30), list(range(30)))[-1])
        self.assertTrue(is_round(halves(30), by_closing(halves(30))))
        self.assertIsNone(by_closing(ring(30)))

    def test_a_new_list_each_time(self):
        yard = ring(4)
        by_closing(yard).clear()
        self.assertEqual(by_closing(yard), [0, 1, 2, 3])
        self.assertEqual(yard.ties(), ring(4).ties())


if __name__ == "__main__":
    unittest.main()
