"""Point 8: deals in rooms."""

import unittest
from time import perf_counter

from fairsplit.errors import BadBid, NoPeople, TooMany, Uneven
from fairsplit.rooms import in_rooms
from fairsplit.worths import envies, fair
from tests.plain import MOST, NO_NUMBERS, Case, all_bids, mixed_bids, most_in_rooms, plain_envies, plain_together


class Rooms(Case):
    def check(self, bids):
        """Look whether the deal of these bids is a fair one in rooms, and tell it."""
        told = in_rooms(bids)
        with self.subTest(bids=bids, told=told):
            heaps, sums = told
            self.assertEqual(len(heaps), len(bids))
            self.assertEqual(len(sums), len(bids))
            for heap in heaps:
                self.assertLessEqual(len(heap), 1)
            self.assertEqual(sorted(good for heap in heaps for good in heap), list(range(len(bids[0]))))
            self.assertEqual(sum(sums), 0)
            self.assertEqual(plain_envies(bids, heaps, sums), [])
            self.assertEqual(envies(bids, heaps, sums), [])
            self.assertIs(fair(bids, heaps, sums), True)
        return told

    def refused(self, kind, bids):
        with self.subTest(bids=bids):
            self.refuses(kind, in_rooms, bids)


class InRooms(Rooms):
    def test_no_goods(self):
        self.assertEqual(in_rooms([[]]), ([[]], [0]))
        self.assertEqual(in_rooms([[], []]), ([[], []], [0, 0]))
        self.assertEqual(in_rooms([[]] * 9), ([[]] * 9, [0] * 9))

    def test_one_person(self):
        self.assertEqual(in_rooms([[5]]), ([[0]], [0]))
        self.assertEqual(in_rooms([[0]]), ([[0]], [0]))
        self.assertEqual(in_rooms([[MOST]]), ([[0]], [0]))

    def test_each_wants_another_good(self):
        heaps, _ = self.check([[9, 1, 1], [1, 9, 1], [1, 1, 9]])
        self.assertEqual(heaps, [[0], [1], [2]])
        heaps, _ = self.check([[1, 1, 9], [9, 1, 1], [1, 9, 1]])
        self.assertEqual(heaps, [[2], [0], [1]])

    def test_the_most_bid_does_not_always_take(self):
        # 9 and 1 together are less than 8 and 6.
        heaps, _ = self.check([[9, 6], [8, 1]])
        self.assertEqual(heaps, [[1], [0]])

    def test_a_chain_of_changes(self):
        heaps, _ = self.check([[10, 9, 0], [10, 8, 7], [10, 0, 0]])
        self.assertEqual(heaps, [[1], [2], [0]])

    def test_fewer_goods_than_people(self):
        heaps, _ = self.check([[4], [7], [5]])
        self.assertEqual(heaps, [[], [0], []])
        heaps, _ = self.check([[9, 4], [6, 8], [7, 2], [1, 1]])
        self.assertEqual(heaps, [[0], [1], [], []])

    def test_a_good_that_nobody_wants_is_given_too(self):
        self.check([[0]])
        self.check([[0], [0]])
        self.check([[5, 0], [7, 0], [6, 0]])
        self.check([[0, 0, 0], [1, 0, 0], [1, 0, 0]])

    def test_a_pair_of_two_lists(self):
        for bids in ([[9, 1], [2, 8], [3, 3]], [[], []], [[7]]):
            told = in_rooms(bids)
            self.assertIs(told.__class__, tuple)
            self.assertEqual(len(told), 2)
            heaps, sums = told
            self.assertIs(heaps.__class__, list)
            self.assertIs(sums.__class__, list)
            self.assertEqual([heap.__class__ for heap in heaps], [list] * len(bids))
            self.assertEqual([good.__class__ for heap in heaps for good in heap], [int] * len(bids[0]))
            self.assertEqual([paid.__class__ for paid in sums], [int] * len(bids))

    def test_each_heap_is_a_list_of_its_own(self):
        for bids in ([[], [], []], [[5], [5], [5]], [[1, 2, 3]] * 3):
            heaps, _ = in_rooms(bids)
            before = [list(heap) for heap in heaps]
            for heap in heaps:
                heap.append("mine")
            self.assertEqual(heaps, [heap + ["mine"] for heap in before])

    def test_bids_that_are_all_alike(self):
        for people in range(1, 10):
            for goods in range(people + 1):
                for amount in (0, 1, MOST):
                    self.check([[amount] * goods for _ in range(people)])

    def test_bids_about_the_greatest(self):
        self.check([[MOST, MOST - 1], [MOST - 1, MOST]])
        self.check([[MOST, 0], [MOST, MOST]])
        self.check([[MOST, MOST - 1, 0], [MOST, MOST - 2, 1], [MOST, 0, 0], [MOST, 1, 1]])
        self.check([[MOST], [MOST - 1], [0]])

    def test_all_small_ones(self):
        kinds = ((1, 1, (0, 1, 5)), (2, 1, (0, 1, 2)), (2, 2, (0, 1, 2, 5)), (3, 1, (0, 1, 3)), (3, 2, (0, 1, 3)))
        for people, goods, amounts in kinds + ((3, 3, (0, 2)), (4, 2, (0, 3)), (4, 1, (0, 1, 2))):
            for bids in all_bids(people, goods, amounts):
                heaps, _ = self.check(bids)
                self.assertEqual(plain_together(bids, heaps), most_in_rooms(bids))

    def test_many_people_and_goods(self):
        for people in range(1, 10):
            for goods in range(people + 1):
                for bound in (2, 4, 100, MOST + 1):
                    self.check(mixed_bids(people, goods, bound, people * 100 + goods))

    def test_prices_go_along_a_chain_of_all_people(self):
        # Each next one wants the good of the one before a little more than their own.
        for order in (1, -1):
            bids = [[0] * 9 for _ in range(9)]
            for person in range(9):
                bids[person][person] = 100
                if 0 <= person + order < 9:
                    bids[person][person + order] = 110
            heaps, _ = self.check(bids)
            self.assertEqual(plain_together(bids, heaps), 900)

    def test_nine_people_and_nine_goods_soon(self):
        kinds = [mixed_bids(9, 9, bound, bound) for bound in (2, 10, MOST + 1)]
        kinds += [[[MOST] * 9] * 9, [[0] * 9] * 9, [[(p + 1) * (g + 1) for g in range(9)] for p in range(9)]]
        for bids in kinds:
            start = perf_counter()
            in_rooms(bids)
            self.assertLess(perf_counter() - start, 1)
            self.check(bids)


class MoreGoodsThanPeople(Rooms):
    def test_as_many_goods_as_people_and_one_more(self):
        for people in range(1, 10):
            self.check([[1] * people] * people)
            self.refused(TooMany, [[1] * (people + 1)] * people)
        self.refused(TooMany, [[1] * 40] * 3)
        self.refused(TooMany, [[1] * 40])
        self.refused(TooMany, [[1] * 41])

    def test_bids_of_nought_are_goods_too(self):
        self.refused(TooMany, [[0, 0]])
        self.refused(TooMany, [[1, 0, 0], [0, 1, 0]])

    def test_nobody_there(self):
        self.refused(NoPeople, [])

    def test_too_many_people(self):
        self.refused(TooMany, [[1] * 10] * 10)
        self.refused(TooMany, [[1] * 11] * 10)
        self.refused(TooMany, [[]] * 10)

    def test_uneven_rows_are_told_before(self):
        self.refused(Uneven, [[1, 2, 3], [1, 2]])
        self.refused(Uneven, [[1, 2, 3], [1, 2, 3, 4]])
        self.refused(Uneven, [[1] * 40, [1] * 41])
        self.refused(Uneven, [[1, 2, 3], []])

    def test_bad_bids_are_told_before(self):
        for bad in NO_NUMBERS + (-1, MOST + 1):
            self.refused(BadBid, [[1, bad]])
            self.refused(BadBid, [[1, 2, 3], [1, 2, bad]])

    def test_the_first_faulty_row_is_told(self):
        self.refused(BadBid, [[1, 2, -1], [1]])
        self.refused(Uneven, [[1, 2, 3], [1], [1, 2, -1]])


class AlikeEachTime(Rooms):
    def test_the_same_deal_again(self):
        kinds = [[[5, 5], [5, 5]], [[0] * 4] * 4, [[3], [3], [3]], mixed_bids(6, 6, 2), mixed_bids(9, 5, 3), [[], []]]
        first = [repr(in_rooms(bids)) for bids in kinds]
        for bids in reversed(kinds):
            heaps, sums = in_rooms(bids)
            heaps[0].append("mine")
            heaps.pop()
            sums.clear()
        in_rooms(mixed_bids(5, 5, 9))
        for bids, told in zip(kinds, first):
            self.assertEqual(repr(in_rooms([list(row) for row in bids])), told)
            self.assertEqual(repr(in_rooms(bids)), told)


if __name__ == "__main__":
    unittest.main()
