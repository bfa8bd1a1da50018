"""Points [3], [4] and [5], orders, and what point [1] says of them."""

import unittest
from itertools import permutations

from denseround.errors import BadOrder
from denseround.orders import gaps, is_round, rounded, turned
from denseround.yards import Yard, thin
from tests.helpers import all_yards, full, halves, path, ring

NO_ORDERS_OF_FOUR = (
    [],
    [0, 1, 2],
    [0, 1, 3],
    [0, 1, 2, 2],
    [0, 1, 2, 4],
    [-1, 0, 1, 2],
    [0, 1, -2, 3],
    [0, 1, 2, 3, 4],
    [0, 1, 2, 3, 3],
)


def gap_pairs(yard, order):
    """The pairs that lie beside each other in the order and aren't tied."""
    pairs = [frozenset((place, order[at - 1])) for at, place in enumerate(order)]
    return {pair for pair in pairs if not yard.is_tied(min(pair), max(pair))}


def closing_turnings(yard, order):
    """All turnings that rid the order of the gap they turn at and bring none."""
    before = gap_pairs(yard, order)
    found = []
    for at in gaps(yard, order):
        gap = frozenset((order[at], order[(at + 1) % len(order)]))
        for back in range(len(order) - 1):
            behind = gap_pairs(yard, turned(yard, order, at, back))
            if gap not in behind and behind < before:
                found.append((at, back))
    return found


class Gaps(unittest.TestCase):
    def test_no_gap(self):
        self.assertEqual(gaps(ring(4), [0, 1, 2, 3]), [])
        self.assertEqual(gaps(ring(4), [2, 1, 0, 3]), [])

    def test_some_gaps_rising(self):
        self.assertEqual(gaps(ring(4), [0, 2, 1, 3]), [0, 2])
        self.assertEqual(gaps(ring(4), [3, 0, 2, 1]), [1, 3])

    def test_all_gaps(self):
        self.assertEqual(gaps(Yard(5, []), [3, 1, 4, 0, 2]), [0, 1, 2, 3, 4])

    def test_the_gap_behind_the_last_place(self):
        self.assertEqual(gaps(path(4), [0, 1, 2, 3]), [3])
        self.assertEqual(gaps(path(4), [1, 2, 3, 0]), [2])

    def test_one_place(self):
        self.assertEqual(gaps(Yard(1, []), [0]), [0])

    def test_two_places(self):
        self.assertEqual(gaps(Yard(2, []), [1, 0]), [0, 1])
        self.assertEqual(gaps(Yard(2, [(0, 1)]), [1, 0]), [])

    def test_thirty_places(self):
        self.assertEqual(gaps(halves(30), list(range(30))), [at for at in range(29) if at != 14])

    def test_no_order(self):
        for order in NO_ORDERS_OF_FOUR:
            with self.subTest(order=order), self.assertRaises(BadOrder):
                gaps(full(4), order)


class IsRound(unittest.TestCase):
    def test_three_places_or_more_without_a_gap(self):
        self.assertIs(is_round(full(3), [2, 0, 1]), True)
        self.assertIs(is_round(ring(4), [1, 2, 3, 0]), True)
        self.assertIs(is_round(full(30), list(range(30))), True)

    def test_orders_with_gaps(self):
        self.assertIs(is_round(path(3), [0, 1, 2]), False)
        self.assertIs(is_round(path(4), [1, 2, 3, 0]), False)
        self.assertIs(is_round(ring(4), [0, 2, 1, 3]), False)

    def test_one_and_two_places(self):
        self.assertIs(is_round(Yard(1, []), [0]), False)
        self.assertIs(is_round(Yard(2, []), [0, 1]), False)
        self.assertIs(is_round(Yard(2, [(0, 1)]), [0, 1]), False)

    def test_no_order(self):
        for order in NO_ORDERS_OF_FOUR:
            with self.subTest(order=order), self.assertRaises(BadOrder):
                is_round(full(4), order)

    def test_no_order_of_one_or_two_places(self):
        for many, order in ((1, []), (1, [1]), (1, [0, 0]), (2, [0]), (2, [1, 1]), (2, [0, 1, 2])):
            with self.subTest(order=order), self.assertRaises(BadOrder):
                is_round(Yard(many, []), order)


class Turned(unittest.TestCase):
    def test_the_first_ones_behind_the_gap_are_turned_round(self):
        order = [4, 0, 3, 1, 2]
        self.assertEqual(turned(full(5), order, 1, 1), [1, 3, 2, 4, 0])
        self.assertEqual(turned(full(5), order, 1, 2), [2, 1, 3, 4, 0])

    def test_at_both_ends_of_the_order(self):
        order = [4, 0, 3, 1, 2]
        self.assertEqual(turned(full(5), order, 0, 1), [3, 0, 1, 2, 4])
        self.assertEqual(turned(full(5), order, 4, 1), [0, 4, 3, 1, 2])

    def test_back_from_none_to_the_greatest(self):
        order = [4, 0, 3, 1, 2]
        self.assertEqual(turned(full(5), order, 2, 0), [1, 2, 4, 0, 3])
        self.assertEqual(turned(full(5), order, 2, 3), [0, 4, 2, 1, 3])

    def test_two_places(self):
        self.assertEqual(turned(Yard(2, []), [0, 1], 0, 0), [1, 0])
        self.assertEqual(turned(Yard(2, []), [0, 1], 1, 0), [0, 1])

    def test_turnings_close_what_they_close(self):
        # The first one of the row 3, 0, 2, 1 is tied to 2, the last one to 0.
        yard = ring(4)
        self.assertEqual(turned(yard, [1, 3, 0, 2], 0, 1), [0, 3, 2, 1])
        self.assertEqual(gaps(yard, [1, 3, 0, 2]), [0, 2])
        self.assertEqual(gaps(yard, [0, 3, 2, 1]), [])

    def test_a_gap_that_is_closed_is_gone_and_none_comes(self):
        for yard in all_yards(5):
            for order in ([0, 1, 2, 3, 4], [3, 0, 4, 2, 1]):
                for at in gaps(yard, order):
                    for back in range(1, 4):
                        self.assert_closed(yard, order, at, back)

    def assert_closed(self, yard, order, at, back):
        row = order[at + 1:] + order[:at + 1]
        if yard.is_tied(row[0], row[back + 1]) and yard.is_tied(row[-1], row[back]):
            behind = gap_pairs(yard, turned(yard, order, at, back))
            before = gap_pairs(yard, order)
            self.assertNotIn(frozenset((row[0], row[-1])), behind)
            self.assertLess(behind, before)
            self.assertIn((at, back), closing_turnings(yard, order))

    def test_turnings_that_close_nothing_are_done_too(self):
        self.assertEqual(turned(path(4), [0, 1, 2, 3], 3, 1), [1, 0, 2, 3])
        self.assertEqual(gaps(path(4), [1, 0, 2, 3]), [1, 3])
        self.assertEqual(turned(Yard(3, []), [0, 1, 2], 1, 1), [0, 2, 1])

    def test_no_turning(self):
        order = [0, 1, 2, 3]
        for at, back in ((-1, 0), (-4, 1), (4, 0), (9, 1), (0, -1), (0, 3), (3, 3), (1, -3), (2, 4)):
            with self.subTest(at=at, back=back), self.assertRaises(BadOrder):
                turned(full(4), order, at, back)

    def test_one_place_has_no_turning(self):
        for at, back in ((0, 0), (0, -1), (1, 0), (-1, 0)):
            with self.subTest(at=at, back=back), self.assertRaises(BadOrder):
                turned(Yard(1, []), [0], at, back)

    def test_no_order(self):
        for order in NO_ORDERS_OF_FOUR:
            with self.subTest(order=order), self.assertRaises(BadOrder):
                turned(full(4), order, 0, 0)


class Rounded(unittest.TestCase):
    def test_orders_that_are_rounds_already(self):
        self.assertEqual(rounded(ring(4), [2, 1, 0, 3]), ("round", [], [2, 1, 0, 3]))
        self.assertEqual(rounded(full(3), [0, 2, 1]), ("round", [], [0, 2, 1]))

    def test_orders_that_become_rounds(self):
        self.assertEqual(rounded(ring(4), [1, 3, 0, 2]), ("round", [(0, 1)], [0, 3, 2, 1]))
        self.assertEqual(
            rounded(halves(6), [0, 1, 2, 3, 4, 5]),
            ("round", [(0, 2), (1, 1)], [4, 1, 5, 0, 3, 2]),
        )

    def test_orders_that_stay_stuck(self):
        self.assertEqual(rounded(path(4), [0, 1, 2, 3]), ("stuck", [], [0, 1, 2, 3]))
        self.assertEqual(rounded(Yard(3, []), [1, 0, 2]), ("stuck", [], [1, 0, 2]))

    def test_turnings_that_end_stuck(self):
        self.assertEqual(
            rounded(Yard(4, [(0, 1), (0, 2), (1, 3)]), [0, 1, 2, 3]),
            ("stuck", [(1, 1)], [3, 2, 0, 1]),
        )

    def test_one_and_two_places(self):
        self.assertEqual(rounded(Yard(1, []), [0]), ("stuck", [], [0]))
        self.assertEqual(rounded(Yard(2, []), [1, 0]), ("stuck", [], [1, 0]))
        self.assertEqual(rounded(Yard(2, [(0, 1)]), [1, 0]), ("stuck", [], [1, 0]))

    def test_the_least_gap_that_closes_and_the_least_back_are_taken(self):
        for many in (3, 4):
            for yard in all_yards(many):
                for order in permutations(range(many)):
                    self.assert_least(yard, list(order))

    def test_the_least_of_several_gaps_and_backs_in_larger_yards(self):
        self.assert_least(halves(10), list(range(10)))
        self.assert_least(halves(10), [9, 0, 1, 8, 2, 7, 6, 3, 5, 4])
        self.assert_least(halves(30), list(range(30)))

    def assert_least(self, yard, order):
        now = order
        done = []
        closing = closing_turnings(yard, now)
        while closing:
            done.append(min(closing))
            now = turned(yard, now, *min(closing))
            closing = closing_turnings(yard, now)
        word = "round" if is_round(yard, now) else "stuck"
        self.assertEqual(rounded(yard, order), (word, done, now))

    def test_a_gap_that_no_turning_closes_is_passed_over(self):
        # The gap at 0 lies beside place 1, which has one tie alone.
        yard = Yard(5, [(0, 2), (0, 3), (0, 4), (1, 2), (2, 4), (3, 4)])
        order = [0, 1, 2, 3, 4]
        self.assertEqual(gaps(yard, order), [0, 2])
        self.assertEqual(rounded(yard, order), ("stuck", [(2, 1)], [4, 3, 0, 1, 2]))

    def test_a_round_from_any_order_where_thin_tells_none(self):
        for many in (3, 4, 5):
            for yard in all_yards(many):
                if not thin(yard):
                    for order in permutations(range(many)):
                        self.assert_rounded(yard, list(order))

    def test_a_round_in_large_yards_where_thin_tells_none(self):
        orders = (
            list(range(30)),
            list(range(29, -1, -1)),
            [place * 7 % 30 for place in range(30)],
        )
        for yard in (halves(30), full(30)):
            self.assertEqual(thin(yard), [])
            for order in orders:
                self.assert_rounded(yard, order)

    def assert_rounded(self, yard, order):
        word, turnings, found = rounded(yard, order)
        self.assertEqual(word, "round")
        self.assertTrue(is_round(yard, found))
        for at, back in turnings:
            order = turned(yard, order, at, back)
        self.assertEqual(order, found)

    def test_no_order(self):
        for order in NO_ORDERS_OF_FOUR:
            with self.subTest(order=order), self.assertRaises(BadOrder):
                rounded(full(4), order)


class NothingKept(unittest.TestCase):
    def test_orders_handed_in_stay_the_same(self):
        yard = halves(6)
        order = [0, 1, 2, 3, 4, 5]
        gaps(yard, order)
        is_round(yard, order)
        turned(yard, order, 2, 3)
        rounded(yard, order)
        self.assertEqual(order, [0, 1, 2, 3, 4, 5])
        self.assertEqual(yard.ties(), halves(6).ties())

    def test_refused_orders_stay_the_same(self):
        order = [2, 1, 1, 0]
        for refusing in (gaps, is_round, rounded):
            with self.assertRaises(BadOrder):
                refusing(full(4), order)
        with self.assertRaises(BadOrder):
            turned(full(4), order, 0, 0)
        self.assertEqual(order, [2, 1, 1, 0])

    def test_what_is_given_back_is_no_list_that_was_handed_in(self):
        order = [0, 1, 2, 3]
        rounded(ring(4), order)[2].clear()
        rounded(path(4), order)[2].clear()
        turned(ring(4), order, 3, 0).clear()
        gaps(ring(4), order).append(7)
        self.assertEqual(order, [0, 1, 2, 3])

    def test_what_is_told_next_is_the_same(self):
        yard = halves(6)
        order = [0, 1, 2, 3, 4, 5]
        for telling in (gaps, rounded, lambda yard, order: turned(yard, order, 2, 3)):
            first = telling(yard, order)
            for part in first if isinstance(first, tuple) else (first,):
                if isinstance(part, list):
                    part.clear()
            self.assertNotEqual(first, telling(yard, order))
            self.assertEqual(telling(yard, order), telling(halves(6), [0, 1, 2, 3, 4, 5]))


if __name__ == "__main__":
    unittest.main()
