"""Point 2: the refusals of bids, in their order, by all that takes bids."""

import unittest

from fairsplit.errors import BadBid, NoDeal, NoPeople, TooMany, Uneven
from tests.plain import MOST, NO_NUMBERS, Case, takers

BAD = NO_NUMBERS + (-1, MOST + 1, -MOST, 10 * MOST)


class Refusals(Case):
    def refused(self, kind, bids):
        for name, taker in takers().items():
            with self.subTest(name, bids=bids):
                self.refuses(kind, taker, bids)

    def taken(self, bids):
        for name, taker in takers().items():
            with self.subTest(name, bids=bids):
                try:
                    taker(bids)
                except NoDeal:
                    self.assertIn("without a deal", name)
                except TooMany:
                    # The one that is due in rooms behind all these.
                    self.assertEqual(name, "in_rooms")
                    self.assertGreater(len(bids[0]), len(bids))

    def test_no_row(self):
        self.refused(NoPeople, [])

    def test_nine_rows_and_ten(self):
        self.taken([[1]] * 9)
        self.taken([[]] * 9)
        self.refused(TooMany, [[1]] * 10)
        self.refused(TooMany, [[]] * 10)
        self.refused(TooMany, [[1]] * 11)

    def test_one_row(self):
        self.taken([[1, 2]])
        self.taken([[]])

    def test_forty_bids_and_forty_one(self):
        self.taken([[1] * 40])
        self.taken([[1] * 40] * 3)
        self.refused(TooMany, [[1] * 41])
        self.refused(TooMany, [[1] * 41, [1] * 41])
        self.refused(TooMany, [[1] * 42])

    def test_forty_one_bids_in_a_later_row_are_uneven(self):
        self.refused(Uneven, [[1] * 40, [1] * 41])
        self.refused(Uneven, [[1], [1] * 41])

    def test_a_later_row_longer_or_shorter(self):
        self.refused(Uneven, [[1, 2], [1, 2, 3]])
        self.refused(Uneven, [[1, 2], [1]])
        self.refused(Uneven, [[1, 2], []])
        self.refused(Uneven, [[], [1]])
        self.refused(Uneven, [[1, 2], [3, 4], [5]])
        self.refused(Uneven, [[1, 2], [3, 4], [5, 6, 7]])

    def test_bids_within_the_bounds(self):
        for bid in (0, 1, MOST - 1, MOST):
            self.taken([[bid]])
            self.taken([[1, 2], [3, bid]])

    def test_bad_bids(self):
        for bid in BAD:
            self.refused(BadBid, [[bid]])
            self.refused(BadBid, [[1, bid, 2]])
            self.refused(BadBid, [[1, 2], [bid, 4]])
            self.refused(BadBid, [[1, 2], [3, 4], [5, bid]])

    def test_too_many_is_told_before_the_rows(self):
        self.refused(TooMany, [[1]] + [[1, 2]] * 9)
        self.refused(TooMany, [[-1]] * 10)
        self.refused(TooMany, [[1]] * 9 + [[None, 2]])
        self.refused(TooMany, [[True] * 41])
        self.refused(TooMany, [[1] * 41, [1]])
        self.refused(TooMany, [[-1] * 41] * 10)

    def test_uneven_before_bad_in_one_row(self):
        self.refused(Uneven, [[1, 2], [-1]])
        self.refused(Uneven, [[1, 2], [True, "x", None]])

    def test_a_bad_row_before_an_uneven_one(self):
        self.refused(BadBid, [[1, -1], [1]])
        self.refused(BadBid, [[1, 2], [3, None], [5]])
        self.refused(BadBid, [[True], []])

    def test_a_bad_row_behind_an_uneven_one(self):
        self.refused(Uneven, [[1, 2], [3], [5, -1]])
        self.refused(Uneven, [[1, 2], [3, 4, 5], [None, None]])


if __name__ == "__main__":
    unittest.main()
