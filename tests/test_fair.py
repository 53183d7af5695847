"""Point 6: when a deal is fair."""

import unittest
from itertools import product

from fairsplit.worths import fair
from tests.plain import MOST, NO_NUMBERS, all_bids, plain_envies

BIDS = [[9, 1, 4], [2, 8, 4]]
HEAPS = [[0, 2], [1]]
SUMS = [5, -5]


class Fair(unittest.TestCase):
    def told(self, answer, bids, heaps, sums):
        with self.subTest(bids=bids, heaps=heaps, sums=sums):
            self.assertIs(fair(bids, heaps, sums), answer)

    def test_a_fair_deal(self):
        self.told(True, BIDS, HEAPS, SUMS)
        self.told(True, [[10], [6]], [[0], []], [6, -6])
        self.told(True, [[10], [6]], [[0], []], [10, -10])

    def test_the_order_in_a_heap_does_not_matter(self):
        self.told(True, BIDS, [[2, 0], [1]], SUMS)
        self.told(True, [[1, 2, 3]], [[1, 2, 0]], [0])

    def test_one_person(self):
        self.told(True, [[3, 5]], [[0, 1]], [0])
        self.told(False, [[3, 5]], [[0, 1]], [1])
        self.told(False, [[3, 5]], [[0]], [0])

    def test_no_goods(self):
        self.told(True, [[]], [[]], [0])
        self.told(True, [[], []], [[], []], [0, 0])
        self.told(False, [[], []], [[], []], [1, -1])

    def test_nine_people_and_forty_goods(self):
        bids = [[MOST] * 40] * 9
        heaps = [list(range(40))] + [[]] * 8
        self.told(True, bids, heaps, [320 * MOST] + [-40 * MOST] * 8)
        self.told(False, bids, heaps, [320 * MOST - 8] + [1 - 40 * MOST] * 8)

    def test_as_many_heaps_as_people(self):
        self.told(False, BIDS, HEAPS + [[]], SUMS)
        self.told(False, BIDS, [[0, 1, 2]], SUMS)
        self.told(False, BIDS, [], SUMS)
        self.told(False, [[]], [], [0])

    def test_as_many_sums_as_people(self):
        self.told(False, BIDS, HEAPS, SUMS + [0])
        self.told(False, BIDS, HEAPS, [0])
        self.told(False, BIDS, HEAPS, [])
        self.told(False, BIDS, HEAPS + [[]], SUMS + [0])
        self.told(False, [[]], [[]], [])

    def test_each_good_is_given(self):
        # Nobody would change with another: only that a good is left is amiss.
        self.told(False, BIDS, [[0], [1]], [0, 0])
        self.told(False, BIDS, [[], []], [0, 0])

    def test_each_good_is_given_to_one(self):
        self.told(False, BIDS, [[0, 2], [1, 2]], [0, 0])
        self.told(False, [[1], [1]], [[0], [0]], [0, 0])

    def test_each_good_is_given_once(self):
        self.told(False, [[0, 0], [0, 0]], [[0, 1, 1], []], [0, 0])
        self.told(False, [[3]], [[0, 0]], [0])
        self.told(False, [[0, 0]], [[0, 0]], [0])

    def test_nothing_else_stands_there(self):
        for thing in NO_NUMBERS + (-1, 3, 4, MOST):
            self.told(False, BIDS, [[0, 2, thing], [1]], SUMS)
            self.told(False, BIDS, [[0, 2], [thing, 1]], SUMS)
            self.told(False, BIDS, [[0, 2], [thing]], SUMS)
        self.told(False, [[]], [[0]], [0])

    def test_a_truth_is_no_good(self):
        self.told(False, [[5, 5]], [[False, 1]], [0])
        self.told(False, [[5, 5]], [[0, True]], [0])

    def test_a_number_behind_the_last_or_before_the_first_is_no_good(self):
        self.told(False, [[5, 5]], [[0, -1]], [0])
        self.told(False, [[5, 5]], [[0, 2]], [0])
        self.told(False, [[5, 5]], [[0, 1, 2]], [0])

    def test_the_sums_come_to_nought(self):
        self.told(False, BIDS, HEAPS, [5, -4])
        self.told(False, BIDS, HEAPS, [5, -6])
        self.told(False, BIDS, HEAPS, [0, -10])

    def test_nobody_would_change(self):
        self.told(False, BIDS, HEAPS, [20, -20])
        self.told(False, BIDS, HEAPS, [-20, 20])
        self.told(False, BIDS, HEAPS[::-1], SUMS)
        self.told(False, [[10], [6]], [[0], []], [11, -11])
        self.told(False, [[10], [6]], [[0], []], [5, -5])

    def test_as_the_document_says(self):
        heaps = ([], [0], [1], [0, 1], [1, 0], [0, 0])
        for bids in all_bids(2, 2, (0, 1, 3)):
            for first, second, price, other in product(heaps, heaps, (-2, 0, 3), (-3, 0, 2)):
                given = sorted(first + second) == [0, 1] and price + other == 0
                deal = ([first, second], [price, other])
                self.told(given and plain_envies(bids, *deal) == [], bids, *deal)


if __name__ == "__main__":
    unittest.main()
