"""Point [11], yards as texts, and what point [1] says of them."""

import unittest

from denseround.errors import BadText, BadYard, YardError
from denseround.notes import read, written
from denseround.yards import Yard
from tests.helpers import all_yards, full, halves, ring, some_yards


class Written(unittest.TestCase):
    def test_without_ties(self):
        self.assertEqual(written(Yard(1, [])), "yard 1")
        self.assertEqual(written(Yard(30, [])), "yard 30")

    def test_ties_row_by_row_in_their_order(self):
        yard = Yard(12, [(2, 11), (0, 1), (0, 10)])
        self.assertEqual(written(yard), "yard 12\ntie 2 11\ntie 0 1\ntie 0 10")

    def test_no_line_feed_at_the_end(self):
        for yard in (Yard(2, []), Yard(2, [(0, 1)]), full(30)):
            self.assertEqual(written(yard).count("\n"), len(yard.ties()))
            self.assertFalse(written(yard).endswith("\n"))


class Read(unittest.TestCase):
    def test_without_ties(self):
        for many in (1, 9, 10, 30):
            yard = read(f"yard {many}")
            self.assertIs(yard.__class__, Yard)
            self.assertEqual((yard.many(), yard.ties()), (many, []))

    def test_with_ties(self):
        yard = read("yard 12\ntie 2 11\ntie 0 1\ntie 0 10")
        self.assertEqual(yard.many(), 12)
        self.assertEqual(yard.ties(), [(2, 11), (0, 1), (0, 10)])
        self.assertIs(yard.is_tied(11, 2), True)
        self.assertEqual(yard.degree(0), 2)

    def test_what_is_written_is_read_to_the_same_yard(self):
        for yard in (*all_yards(4), *some_yards(11, 40), full(30), halves(30), Yard(30, [])):
            again = read(written(yard))
            self.assertEqual((again.many(), again.ties()), (yard.many(), yard.ties()))
            self.assertEqual(written(again), written(yard))

    def test_ties_in_any_order(self):
        ties = ring(10).ties()[::-1]
        self.assertEqual(read(written(Yard(10, ties))).ties(), ties)


class Refused(unittest.TestCase):
    def assert_bad_text(self, text, row):
        with self.subTest(text=text), self.assertRaises(YardError) as caught:
            read(text)
        self.assertIs(caught.exception.__class__, BadText)
        self.assertEqual(caught.exception.row, row)

    def assert_bad_yard(self, text, at, why):
        with self.subTest(text=text), self.assertRaises(YardError) as caught:
            read(text)
        self.assertIs(caught.exception.__class__, BadYard)
        self.assertEqual((caught.exception.at, caught.exception.why), (at, why))

    def test_the_empty_text(self):
        self.assert_bad_text("", 0)
        self.assert_bad_text(" ", 0)

    def test_an_empty_row(self):
        self.assert_bad_text("\nyard 3", 0)
        self.assert_bad_text("\n", 0)
        self.assert_bad_text("yard 3\n", 1)
        self.assert_bad_text("yard 3\ntie 0 1\n", 2)
        self.assert_bad_text("yard 3\ntie 0 1\n\ntie 1 2", 2)
        self.assert_bad_text("yard 3\n\ntie 0 1", 1)

    def test_a_blank_too_many(self):
        for row in (" yard 3", "yard 3 ", "yard  3", " yard 3 ", "  yard 3"):
            self.assert_bad_text(row, 0)
        for row in (" tie 0 1", "tie 0 1 ", "tie  0 1", "tie 0  1", "tie 0 1  ", "tie 0 1\t"):
            self.assert_bad_text(f"yard 3\n{row}", 1)
            self.assert_bad_text(f"yard 3\ntie 0 2\n{row}\ntie 1 2", 2)

    def test_a_word_too_few_or_too_many(self):
        for row in ("yard", "yard ", "3", "yard 3 3", "yard 3 yard", "yard3"):
            self.assert_bad_text(row, 0)
        for row in ("tie", "tie 0", "tie 0 ", "0 1", "tie 0 1 2", "tie 0 1 tie", "tie01", "tie 01"):
            self.assert_bad_text(f"yard 3\n{row}", 1)

    def test_other_words_and_capital_letters(self):
        for row in ("Yard 3", "YARD 3", "yards 3", "place 3", "yar 3", "3 yard", "yard x", "yard yard"):
            self.assert_bad_text(row, 0)
        for row in ("Tie 0 1", "TIE 0 1", "ties 0 1", "0 tie 1", "tie a b", "tie 0 b", "tie a 1", "t 0 1"):
            self.assert_bad_text(f"yard 3\n{row}", 1)

    def test_signs_and_other_characters_in_a_number(self):
        for word in (
            "+3", "-3", "-0", "3.", "3,", "1_", "_1", "0x", "1e", "\u0663", "\u00b2", "\uff13", "\u0967",
            "1\u0663", "\u00bd", "3\r", "\t3", "3\u00a0",
        ):
            self.assert_bad_text(f"yard {word}", 0)
            self.assert_bad_text(f"yard 9\ntie {word} 4", 1)
            self.assert_bad_text(f"yard 9\ntie 0 1\ntie 0 {word}", 2)

    def test_other_line_ends(self):
        self.assert_bad_text("yard 3\r\ntie 0 1", 0)
        self.assert_bad_text("yard 3\rtie 0 1", 0)
        self.assert_bad_text("yard 3\ntie 0 1\r\ntie 0 2", 1)
        self.assert_bad_text("yard 3\ntie 0 1\x0btie 0 2", 1)
        self.assert_bad_text("yard 3\ntie 0 1\u2028tie 0 2", 1)

    def test_a_0_ahead_of_another_figure(self):
        for word in ("00", "03", "09"):
            self.assert_bad_text(f"yard {word}", 0)
            self.assert_bad_text(f"yard 9\ntie {word} 4", 1)
            self.assert_bad_text(f"yard 9\ntie 0 {word}", 1)
        self.assertEqual(read("yard 20\ntie 0 10").ties(), [(0, 10)])

    def test_three_figures(self):
        for word in ("003", "030", "100", "999", "0000000000", "123456789012"):
            self.assert_bad_text(f"yard {word}", 0)
            self.assert_bad_text(f"yard 9\ntie {word} 4", 1)
            self.assert_bad_text(f"yard 9\ntie 0 {word}", 1)

    def test_a_first_row_that_is_a_ties(self):
        self.assert_bad_text("tie 0 1", 0)
        self.assert_bad_text("tie 0 1\nyard 3", 0)
        self.assert_bad_text("tie 3\ntie 0 1", 0)
        self.assert_bad_text("yard 0 1", 0)

    def test_a_later_row_that_is_a_yards(self):
        self.assert_bad_text("yard 3\nyard 3", 1)
        self.assert_bad_text("yard 3\ntie 0 1\nyard 3", 2)
        self.assert_bad_text("yard 3\nyard 0 1", 1)

    def test_the_first_bad_row_is_told(self):
        self.assert_bad_text("yard 3\ntie 0 1\ntie 1\ntie x y\n", 2)
        self.assert_bad_text("yards 3\ntie 0", 0)

    def test_a_bad_row_goes_ahead_of_a_yard_that_cannot_be(self):
        self.assert_bad_text("yard 0\ntie 0", 1)
        self.assert_bad_text("yard 31\ntie 0 1\n", 2)
        self.assert_bad_text("yard 3\ntie 2 1\ntie 0 1\ntie 0 1\ntie 0 99\ntie 00 1", 5)

    def test_yards_that_cannot_be(self):
        self.assert_bad_yard("yard 0", 0, "many")
        self.assert_bad_yard("yard 31", 0, "many")
        self.assert_bad_yard("yard 99\ntie 0 1", 0, "many")
        self.assert_bad_yard("yard 3\ntie 1 0", 0, "place")
        self.assert_bad_yard("yard 3\ntie 0 1\ntie 2 2", 1, "place")
        self.assert_bad_yard("yard 3\ntie 0 1\ntie 1 2\ntie 0 3", 2, "place")
        self.assert_bad_yard("yard 3\ntie 0 99", 0, "place")
        self.assert_bad_yard("yard 3\ntie 0 1\ntie 0 1", 1, "twice")
        self.assert_bad_yard("yard 3\ntie 1 2\ntie 0 1\ntie 1 2\ntie 0 9", 2, "twice")


class NothingKept(unittest.TestCase):
    def test_what_is_told_next_is_the_same(self):
        yard = Yard(4, [(1, 2), (0, 1)])
        text = written(yard)
        first = read(text)
        first.ties().clear()
        self.assertEqual(read(text).ties(), [(1, 2), (0, 1)])
        self.assertEqual(first.ties(), [(1, 2), (0, 1)])
        self.assertEqual(written(yard), text)
        self.assertEqual(yard.ties(), [(1, 2), (0, 1)])


if __name__ == "__main__":
    unittest.main()
