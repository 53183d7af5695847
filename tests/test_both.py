"""Point 9: what holds of deals in heaps and in rooms."""

import unittest

from fairsplit.heaps import in_heaps
from fairsplit.rooms import in_rooms
from tests.plain import MOST, all_bids, mixed_bids, most_in_rooms, plain_gain, plain_together

SMALL = (
    (1, 0, (0,)), (1, 1, (0, 3)), (2, 0, (0,)), (2, 1, (0, 1, 4)), (2, 2, (0, 1, 4)), (3, 1, (0, 1, 4)),
    (3, 2, (0, 2, 3)), (3, 3, (0, 1)), (4, 1, (0, 1, 4)), (4, 2, (0, 5)),
)


class WorthMost(unittest.TestCase):
    def check(self, bids):
        heaps, _ = in_rooms(bids)
        with self.subTest(bids=bids, heaps=heaps):
            self.assertEqual(plain_together(bids, heaps), most_in_rooms(bids))

    def test_small_ones(self):
        for people, goods, amounts in SMALL:
            for bids in all_bids(people, goods, amounts):
                self.check(bids)

    def test_up_to_four_people(self):
        for people in range(1, 5):
            for goods in range(people + 1):
                for bound in (2, 5, 1000, MOST + 1):
                    for start in range(12):
                        self.check(mixed_bids(people, goods, bound, start))

    def test_greedy_ways_are_worth_less(self):
        # In each of these the greatest bid of all stands outside of the best way.
        self.check([[10, 9], [9, 0]])
        self.check([[10, 9, 0], [9, 0, 0], [0, 9, 2]])
        self.check([[7, 6, 0, 0], [6, 0, 5, 0], [0, 0, 6, 5], [0, 0, 0, 1]])


class GainEnough(unittest.TestCase):
    def check(self, bids):
        takers = [in_heaps] + ([in_rooms] if len(bids[0]) <= len(bids) else [])
        for taker in takers:
            heaps, sums = taker(bids)
            told = [plain_gain(bids, heaps, sums, person, person) for person in range(len(bids))]
            with self.subTest(taker=taker.__name__, bids=bids, gains=told):
                for row, gain in zip(bids, told):
                    self.assertGreaterEqual(gain, sum(row))
                    for other, others in zip(bids, told):
                        if other == row:
                            self.assertEqual(gain, others)

    def test_small_ones(self):
        for people, goods, amounts in SMALL + ((1, 3, (0, 1, 2)), (2, 3, (0, 1, 3))):
            for bids in all_bids(people, goods, amounts):
                self.check(bids)

    def test_equal_rows(self):
        for people in range(2, 10):
            for goods in range(people + 3):
                bids = mixed_bids(people, goods, 7, people)
                bids[-1] = list(bids[0])
                self.check(bids)
                bids[people // 2] = list(bids[0])
                self.check(bids)
                self.check([bids[0]] * people)

    def test_equal_rows_with_a_good_and_without(self):
        self.check([[6], [6]])
        self.check([[6], [6], [1]])
        self.check([[6], [6], [9]])
        self.check([[6, 2], [6, 2], [6, 2]])

    def test_about_the_greatest(self):
        for people in range(1, 10):
            for goods in (0, 1, people, 40):
                self.check(mixed_bids(people, goods, MOST + 1, goods))
                self.check([[MOST] * goods] * people)
                self.check([[0] * goods] * people)


if __name__ == "__main__":
    unittest.main()
