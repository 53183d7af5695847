"""Points 4 and 5: what people gain and with whom they would change; when there is no deal."""

import unittest
from itertools import product

from fairsplit.errors import BadBid, NoDeal, NoPeople, TooMany, Uneven
from fairsplit.worths import envies, gains
from tests.plain import MOST, NO_NUMBERS, all_bids, plain_envies, plain_gain


class Gains(unittest.TestCase):
    def test_one_person(self):
        self.assertEqual(gains([[3, 5]], [[0, 1]], [0]), [8])
        self.assertEqual(gains([[3, 5]], [[1]], [2]), [3])
        self.assertEqual(gains([[3, 5]], [[]], [-4]), [4])

    def test_several(self):
        self.assertEqual(gains([[3, 5], [4, 1]], [[1], [0]], [1, -1]), [9, 9])
        self.assertEqual(gains([[3, 5, 2], [4, 1, 9], [0, 0, 1]], [[0, 1], [2], []], [10, 4, -14]), [14, 23, 14])

    def test_sums_below_nought_and_above(self):
        bids = [[10], [6]]
        self.assertEqual(gains(bids, [[0], []], [10, -10]), [10, 10])
        self.assertEqual(gains(bids, [[0], []], [-10, 10]), [30, -10])
        self.assertEqual(gains(bids, [[0], []], [50, 0]), [-30, 0])

    def test_no_goods(self):
        self.assertEqual(gains([[]], [[]], [0]), [0])
        self.assertEqual(gains([[], [], []], [[], [], []], [0, 4, -9]), [0, -4, 9])

    def test_a_good_with_nobody(self):
        self.assertEqual(gains([[3, 5], [4, 1]], [[], [0]], [0, 0]), [0, 8])
        self.assertEqual(gains([[3, 5], [4, 1]], [[], []], [0, 0]), [0, 0])

    def test_a_good_with_two(self):
        self.assertEqual(gains([[3, 5], [4, 1]], [[0, 1], [0]], [0, 0]), [16, 8])

    def test_a_good_twice_in_one_heap(self):
        self.assertEqual(gains([[3, 5], [4, 1]], [[1, 0, 1], []], [0, 0]), [26, 0])

    def test_great_numbers(self):
        bids = [[MOST] * 40] * 9
        heaps = [list(range(40))] + [[]] * 8
        sums = [MOST ** 2] + [-MOST ** 3] * 8
        self.assertEqual(gains(bids, heaps, sums), [360 * MOST - MOST ** 2] + [MOST ** 3] * 8)


class Envies(unittest.TestCase):
    def test_one_person(self):
        self.assertEqual(envies([[3, 5]], [[]], [7]), [])

    def test_nobody(self):
        self.assertEqual(envies([[10], [6]], [[0], []], [8, -8]), [])

    def test_as_much_is_no_reason_to_change(self):
        # By the other's heap and sum each gains just what they gain by their own.
        self.assertEqual(envies([[10], [10]], [[0], []], [10, -10]), [])
        self.assertEqual(envies([[10], [10]], [[0], []], [11, -11]), [(0, 1)])
        self.assertEqual(envies([[10], [10]], [[0], []], [9, -9]), [(1, 0)])

    def test_a_unit_is_as_many_shares_as_people(self):
        bids = [[5], [5], [5]]
        self.assertEqual(envies(bids, [[0], [], []], [10, -5, -5]), [])
        self.assertEqual(envies(bids, [[0], [], []], [9, -5, -5]), [(1, 0), (2, 0)])
        self.assertEqual(envies(bids, [[0], [], []], [11, -5, -5]), [(0, 1), (0, 2)])

    def test_sums_need_not_come_to_nought(self):
        self.assertEqual(envies([[], []], [[], []], [5, 7]), [(1, 0)])
        self.assertEqual(envies([[], []], [[], []], [-5, -7]), [(0, 1)])

    def test_sorted_by_the_first_one_then_by_the_other(self):
        bids = [[1, 2, 3]] * 4
        heaps = [[], [0], [1], [2]]
        told = envies(bids, heaps, [0, 0, 0, 0])
        self.assertEqual(told, [(0, 1), (0, 2), (0, 3), (1, 2), (1, 3), (2, 3)])
        told = envies(bids, heaps[::-1], [0, 0, 0, 0])
        self.assertEqual(told, [(1, 0), (2, 0), (2, 1), (3, 0), (3, 1), (3, 2)])

    def test_a_list_of_pairs(self):
        told = envies([[1], [1]], [[0], []], [0, 0])
        self.assertIs(told.__class__, list)
        self.assertEqual(told, [(1, 0)])
        self.assertIs(told[0].__class__, tuple)

    def test_both_may_want_to_change(self):
        self.assertEqual(envies([[9, 1], [1, 9]], [[1], [0]], [0, 0]), [(0, 1), (1, 0)])

    def test_no_goods(self):
        self.assertEqual(envies([[], [], []], [[], [], []], [0, 0, 0]), [])
        self.assertEqual(envies([[], [], []], [[], [], []], [1, 0, -1]), [(0, 1), (0, 2), (1, 2)])

    def test_a_good_with_nobody_and_a_good_with_two(self):
        self.assertEqual(envies([[3, 5], [4, 1]], [[0], [0]], [0, 0]), [])
        self.assertEqual(envies([[3, 5], [4, 1]], [[0, 1], [0]], [0, 0]), [(1, 0)])

    def test_as_the_document_says(self):
        heaps = ([], [0], [1], [1, 0], [0, 0])
        for bids in all_bids(2, 2, (0, 1, 3)):
            for first, second, price in product(heaps, heaps, (-3, 0, 2)):
                deal = ([first, second], [price, 1])
                with self.subTest(bids=bids, deal=deal):
                    self.assertEqual(envies(bids, *deal), plain_envies(bids, *deal))
                    own = [plain_gain(bids, *deal, person, person) for person in (0, 1)]
                    self.assertEqual(gains(bids, *deal), own)


class NoDeals(unittest.TestCase):
    bids = [[3, 5], [4, 1]]

    def refused(self, kind, bids, heaps, sums):
        for asked in (gains, envies):
            with self.subTest(asked=asked.__name__, bids=bids, heaps=heaps, sums=sums):
                with self.assertRaises(kind) as caught:
                    asked(bids, heaps, sums)
                self.assertIs(caught.exception.__class__, kind)

    def test_a_heap_more_or_less(self):
        self.refused(NoDeal, self.bids, [[0], [1], []], [0, 0])
        self.refused(NoDeal, self.bids, [[0]], [0, 0])
        self.refused(NoDeal, self.bids, [], [0, 0])
        self.refused(NoDeal, [[]], [], [0])

    def test_a_sum_more_or_less(self):
        self.refused(NoDeal, self.bids, [[0], [1]], [0, 0, 0])
        self.refused(NoDeal, self.bids, [[0], [1]], [0])
        self.refused(NoDeal, self.bids, [[0], [1]], [])
        self.refused(NoDeal, [[]], [[]], [])

    def test_as_many_heaps_as_sums_but_not_as_people(self):
        self.refused(NoDeal, self.bids, [[0], [1], []], [0, 0, 0])
        self.refused(NoDeal, self.bids, [[0, 1]], [0])
        self.refused(NoDeal, self.bids, [], [])

    def test_no_goods_number(self):
        for thing in NO_NUMBERS + (-1, -2, 2, 3, MOST):
            self.refused(NoDeal, self.bids, [[thing], [1]], [0, 0])
            self.refused(NoDeal, self.bids, [[0], [1, thing]], [0, 0])
            self.refused(NoDeal, self.bids, [[], [thing, 0, 1]], [0, 0])

    def test_no_good_at_all(self):
        self.refused(NoDeal, [[], []], [[0], []], [0, 0])
        self.refused(NoDeal, [[], []], [[], [-1]], [0, 0])

    def test_only_behind_the_refusals_of_bids(self):
        for heaps, sums in (([[0]], [0, 0]), ([[0], [1]], []), ([["x"], [-1]], [0, 0]), ([], [])):
            self.refused(NoPeople, [], heaps + [[]], sums)
            self.refused(TooMany, [[1]] * 10, heaps, sums)
            self.refused(TooMany, [[1] * 41], heaps, sums)
            self.refused(Uneven, [[1, 2], [3]], heaps, sums)
            self.refused(BadBid, [[1, 2], [3, True]], heaps, sums)


if __name__ == "__main__":
    unittest.main()
