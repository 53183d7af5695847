"""Point 4: what a heap is worth."""

import unittest

from fairsplit.worths import worth
from tests.plain import MOST


class Worth(unittest.TestCase):
    def test_empty_heap(self):
        self.assertEqual(worth([3, 5, 7], []), 0)
        self.assertEqual(worth([], []), 0)

    def test_bids_are_added(self):
        self.assertEqual(worth([3, 5, 7], [1]), 5)
        self.assertEqual(worth([3, 5, 7], [0, 2]), 10)
        self.assertEqual(worth([3, 5, 7], [0, 1, 2]), 15)
        self.assertEqual(worth([3, 0, 7], [1]), 0)

    def test_a_good_that_stands_there_twice(self):
        self.assertEqual(worth([3, 5, 7], [1, 1]), 10)
        self.assertEqual(worth([3, 5, 7], [2, 0, 2, 2]), 24)

    def test_falling_order(self):
        self.assertEqual(worth([3, 5, 7], [2, 1, 0]), 15)
        self.assertEqual(worth([3, 5, 7], [2, 0]), 10)

    def test_great_bids(self):
        self.assertEqual(worth([MOST] * 40, list(range(40))), 40 * MOST)

    def test_nothing_is_refused(self):
        self.assertEqual(worth([-4, MOST + 1], [0, 1]), MOST - 3)
        self.assertEqual(worth([1] * 41, list(range(41))), 41)
        self.assertEqual(worth([3, 5, 7], [1] * 50), 250)

    def test_what_is_no_good_is_worth_nothing(self):
        self.assertEqual(worth([3, 5, 7], [-1]), 0)
        self.assertEqual(worth([3, 5, 7], [3, 1]), 5)
        self.assertEqual(worth([], [0]), 0)

    def test_a_whole_number_is_told(self):
        self.assertIs(worth([1, 0], [0]).__class__, int)
        self.assertIs(worth([1, 0], []).__class__, int)


if __name__ == "__main__":
    unittest.main()
