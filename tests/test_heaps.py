"""Point 7: deals in heaps."""

import unittest

from fairsplit.heaps import in_heaps
from fairsplit.worths import fair, worth
from tests.plain import MOST, all_bids, plain_envies


class InHeaps(unittest.TestCase):
    def test_most_bid_takes(self):
        self.assertEqual(in_heaps([[9, 1, 4], [2, 8, 3]]), ([[0, 2], [1]], [5, -5]))
        self.assertEqual(in_heaps([[1, 5, 2], [2, 4, 3], [0, 3, 6]]), ([[1], [0], [2]], [2, -7, 5]))

    def test_a_pair_of_two_lists(self):
        told = in_heaps([[9, 1], [2, 8]])
        self.assertIs(told.__class__, tuple)
        self.assertEqual(len(told), 2)
        heaps, sums = told
        self.assertIs(heaps.__class__, list)
        self.assertIs(sums.__class__, list)
        self.assertEqual([heap.__class__ for heap in heaps], [list, list])
        self.assertEqual([paid.__class__ for paid in sums], [int, int])

    def test_no_goods(self):
        self.assertEqual(in_heaps([[]]), ([[]], [0]))
        self.assertEqual(in_heaps([[], [], []]), ([[], [], []], [0, 0, 0]))

    def test_one_person(self):
        self.assertEqual(in_heaps([[3, 0, 5]]), ([[0, 1, 2]], [0]))

    def test_of_equal_bids_the_first(self):
        self.assertEqual(in_heaps([[4, 1], [4, 7], [4, 7]]), ([[0], [1], []], [1, 10, -11]))
        self.assertEqual(in_heaps([[5, 5], [5, 5]]), ([[0, 1], []], [10, -10]))

    def test_nobody_bids(self):
        self.assertEqual(in_heaps([[0, 0], [0, 0]]), ([[0, 1], []], [0, 0]))
        self.assertEqual(in_heaps([[0, 3], [0, 4]]), ([[0], [1]], [-4, 4]))

    def test_bids_about_the_greatest(self):
        told = in_heaps([[MOST - 1, MOST], [MOST, MOST - 1]])
        self.assertEqual(told, ([[1], [0]], [0, 0]))
        told = in_heaps([[MOST - 1], [MOST], [MOST]])
        self.assertEqual(told, ([[], [0], []], [-MOST, 2 * MOST, -MOST]))

    def test_nine_people_and_forty_goods(self):
        heaps, sums = in_heaps([[MOST] * 40] * 9)
        self.assertEqual(heaps, [list(range(40))] + [[]] * 8)
        self.assertEqual(sums, [320 * MOST] + [-40 * MOST] * 8)

    def test_the_goods_of_a_heap_rise(self):
        bids = [[(person * 7 + good * 11) % 13 for good in range(40)] for person in range(5)]
        heaps, _ = in_heaps(bids)
        for heap in heaps:
            self.assertEqual(heap, sorted(heap))
            self.assertGreater(len(heap), 1)

    def test_one_person_may_get_all_goods(self):
        self.assertEqual(in_heaps([[1, 2, 3], [4, 5, 6]]), ([[], [0, 1, 2]], [-15, 15]))

    def test_each_heap_is_a_list_of_its_own(self):
        heaps, _ = in_heaps([[], [], []])
        heaps[0].append("mine")
        self.assertEqual(heaps, [["mine"], [], []])

    def check(self, bids):
        heaps, sums = in_heaps(bids)
        people = range(len(bids))
        goods = range(len(bids[0]))
        with self.subTest(bids=bids):
            for good in goods:
                most = max(row[good] for row in bids)
                first = [person for person in people if bids[person][good] == most][0]
                self.assertEqual([person for person in people if good in heaps[person]], [first])
            self.assertEqual(heaps, [sorted(heap) for heap in heaps])
            self.assertEqual(sum(len(heap) for heap in heaps), len(goods))
            together = sum(worth(bids[person], heaps[person]) for person in people)
            for person in people:
                self.assertEqual(sums[person], worth(bids[person], heaps[person]) * len(bids) - together)
            self.assertEqual(sum(sums), 0)
            self.assertEqual(plain_envies(bids, heaps, sums), [])
            self.assertIs(fair(bids, heaps, sums), True)

    def test_as_the_document_says(self):
        for people, goods, amounts in ((1, 2, (0, 1, 2)), (2, 2, (0, 1, 2)), (3, 2, (0, 2, 5)), (2, 3, (1, 2))):
            for bids in all_bids(people, goods, amounts):
                self.check(bids)

    def test_as_the_document_says_of_many_people_and_goods(self):
        for people in range(1, 10):
            for goods in (0, 1, 7, 40):
                self.check([[(p * p * 31 + g * g * 17 + p * g) % 23 for g in range(goods)] for p in range(people)])


if __name__ == "__main__":
    unittest.main()
