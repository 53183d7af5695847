"""Point 12: bids are written; point 13: texts are read."""

import unittest
from itertools import product

from fairsplit.errors import BadBid, NoPeople, NoText, TooMany, Uneven
from fairsplit.notes import read, shown
from tests.plain import MOST, Case, all_bids, mixed_bids


class Shown(unittest.TestCase):
    def test_lines(self):
        self.assertEqual(shown([[9, 1, 4], [2, 8, 3]]), "9 1 4\n2 8 3\n")
        self.assertEqual(shown([[7]]), "7\n")
        self.assertEqual(shown([[1], [2], [3]]), "1\n2\n3\n")

    def test_a_person_without_bids(self):
        self.assertEqual(shown([[]]), "\n")
        self.assertEqual(shown([[], [], []]), "\n\n\n")
        self.assertEqual(shown([[]] * 9), "\n" * 9)

    def test_numbers(self):
        self.assertEqual(shown([[0]]), "0\n")
        self.assertEqual(shown([[0, 10, 100], [20, 0, 305]]), "0 10 100\n20 0 305\n")
        self.assertEqual(shown([[1234567890, MOST, MOST - 1]]), "1234567890 1000000000000 999999999999\n")

    def test_many(self):
        self.assertEqual(shown([[MOST] * 40] * 9), (" ".join(["1000000000000"] * 40) + "\n") * 9)

    def test_it_is_a_text(self):
        self.assertIs(shown([[1, 2]]).__class__, str)


class Read(Case):
    def told(self, text, bids):
        with self.subTest(text=text):
            told = read(text)
            self.assertEqual(repr(told), repr(bids))

    def refused(self, kind, text):
        with self.subTest(text=text):
            self.refuses(kind, read, text)

    def test_lines(self):
        self.told("9 1 4\n2 8 3\n", [[9, 1, 4], [2, 8, 3]])
        self.told("7\n", [[7]])
        self.told("1\n2\n3\n", [[1], [2], [3]])

    def test_empty_lines(self):
        self.told("\n", [[]])
        self.told("\n\n\n", [[], [], []])
        self.told("\n" * 9, [[]] * 9)
        self.refused(TooMany, "\n" * 10)
        for text in ("\n1\n", "1\n\n", "1 2\n\n3 4\n", "\n\n1\n"):
            self.refused(Uneven, text)

    def test_numbers(self):
        self.told("0\n", [[0]])
        self.told("0 0\n10 100\n", [[0, 0], [10, 100]])
        self.told("1000000000000 999999999999 1234567890\n", [[MOST, MOST - 1, 1234567890]])

    def test_each_figure(self):
        self.told("0 1 2 3 4 5 6 7 8 9\n", [[0, 1, 2, 3, 4, 5, 6, 7, 8, 9]])
        self.told("10 11 12 13 14 15 16 17 18 19\n", [[10, 11, 12, 13, 14, 15, 16, 17, 18, 19]])

    def test_the_empty_text(self):
        self.refused(NoPeople, "")

    def test_no_line_end_behind_the_last_line(self):
        for text in ("1", "1 2\n3 4", "\n1", "1\n ", " ", "x", "0"):
            self.refused(NoText, text)

    def test_blanks(self):
        for text in ("1  2\n", " 1\n", "1 \n", " \n", "  \n", "1 2 \n", " 1 2\n", "1   2\n", "1\n 2\n", "\n \n"):
            self.refused(NoText, text)

    def test_tabs(self):
        for text in ("1\t2\n", "\t1\n", "1\t\n", "\t\n", "1 \t2\n", "1\t 2\n", "\n\t\n"):
            self.refused(NoText, text)

    def test_a_nought_ahead(self):
        for text in ("00\n", "01\n", "000\n", "1 02\n", "1\n00\n", "0000000000001\n", "0" * 13 + "\n", "0 00\n"):
            self.refused(NoText, text)

    def test_signs(self):
        for word in ("-1", "+1", "-0", "+0", "-", "+", "--1", "1-", "1+", "- 1"):
            self.refused(NoText, word + "\n")
            self.refused(NoText, "1 " + word + "\n")
            self.refused(NoText, word + " 1\n")

    def test_other_signs(self):
        for number in range(32, 127):
            sign = chr(number)
            if sign not in "0123456789":
                for word in (sign, "1" + sign, sign + "1", "1" + sign + "1"):
                    if word != "1 1":
                        self.refused(NoText, word + "\n")
                        self.refused(NoText, "5 5\n5 " + word + "\n")

    def test_words_that_python_takes_for_numbers(self):
        for word in ("1_000", "1.0", "1e3", "0x1", "0b1", "1,0", "1/1", "True", "None"):
            self.refused(NoText, word + "\n")

    def test_thirteen_figures_and_fourteen(self):
        self.told("1000000000000\n", [[MOST]])
        for text in ("1000000000001\n", "9999999999999\n", "1 2\n3 1000000000001\n"):
            self.refused(BadBid, text)
        for text in ("10000000000000\n", "99999999999999\n", "1 2\n3 10000000000000\n", "1" * 5000 + "\n"):
            self.refused(NoText, text)

    def test_as_point_two(self):
        self.told("1\n" * 9, [[1]] * 9)
        self.refused(TooMany, "1\n" * 10)
        self.told("1" + " 1" * 39 + "\n", [[1] * 40])
        self.refused(TooMany, "1" + " 1" * 40 + "\n")
        self.refused(Uneven, "1 2\n3\n")
        self.refused(Uneven, "1 2\n3 4 5\n")
        self.refused(Uneven, "1\n1" + " 1" * 40 + "\n")
        self.refused(BadBid, "1 2\n3 1000000000001\n5\n")
        self.refused(Uneven, "1 2\n3\n5 1000000000001\n")
        self.refused(TooMany, "1000000000001\n" * 10)
        self.refused(Uneven, "1 2\n1000000000001\n")

    def test_no_text_is_told_before(self):
        for text in (
            "x\n" + "1\n" * 9, "1\n" * 10 + "x\n", "1\n" * 9 + "1", "\n" * 10 + " ", "1" + " 1" * 40 + " x\n",
            "1" + " 1" * 40, "1 2\n3\nx\n", "1 2\n3", "1000000000001\n01\n", "1 1000000000001\n3 4", "1 2\n3 x 5\n",
        ):
            self.refused(NoText, text)

    def test_a_list_of_lists(self):
        told = read("1 2\n3 4\n")
        self.assertIs(told.__class__, list)
        self.assertEqual([row.__class__ for row in told], [list, list])
        self.assertEqual([bid.__class__ for row in told for bid in row], [int] * 4)


class ShownAndRead(unittest.TestCase):
    def check(self, bids):
        text = shown(bids)
        with self.subTest(bids=bids):
            self.assertEqual(read(text), bids)
            self.assertEqual(shown(read(text)), text)

    def test_what_is_written_is_read_as_the_same(self):
        for people, goods, amounts in ((1, 2, (0, 1, 10, MOST)), (2, 2, (0, 1, 20)), (3, 1, (0, 5, MOST)), (2, 0, ())):
            for bids in all_bids(people, goods, amounts):
                self.check(bids)
        for people in range(1, 10):
            for goods in (0, 1, 9, 40):
                self.check([[0] * goods] * people)
                self.check([[MOST] * goods] * people)
                self.check(mixed_bids(people, goods, MOST + 1))

    def test_all_short_texts(self):
        # Each text is refused as none, or it is just what is written of the bids that are read from it.
        for many in range(1, 7):
            for signs in product("01 \n", repeat=many):
                text = "".join(signs)
                try:
                    self.assertEqual(shown(read(text)), text)
                except NoText:
                    self.assertTrue(self.is_none(text), text)
                except Uneven:
                    self.assertFalse(self.is_none(text), text)

    def is_none(self, text):
        """Tell naively whether the text, of the signs 0, 1, blank and line end, is none of bids."""
        around = "\n" + text
        faults = ("  ", "\n ", " \n", "\n00", "\n01", " 00", " 01")
        return not text.endswith("\n") or any(fault in around for fault in faults)


if __name__ == "__main__":
    unittest.main()
