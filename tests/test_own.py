"""Point 1: what is handed in stays as it was, and what is told is the asker's own."""

import unittest
from copy import deepcopy

from fairsplit.errors import SplitError
from fairsplit.heaps import in_heaps
from fairsplit.worths import envies, fair, gains, worth

BIDS = [[9, 1, 4], [2, 8, 4], [5, 5, 5]]
HEAPS = [[0], [2, 1], []]
SUMS = [5, 30, -2]


class HandedIn(unittest.TestCase):
    def left_alone(self, asked, *handed):
        before = deepcopy(handed)
        parts = [[id(part) for part in thing] for thing in handed]
        try:
            asked(*handed)
        except SplitError:
            pass
        with self.subTest(asked=asked.__name__, handed=before):
            # By repr too, since 1 and True are equal.
            self.assertEqual(repr(handed), repr(before))
            self.assertEqual([[id(part) for part in thing] for thing in handed], parts)

    def test_worth(self):
        self.left_alone(worth, [9, 1, 4], [2, 0, 2])
        self.left_alone(worth, [], [])

    def test_with_a_deal(self):
        for asked in (gains, envies, fair):
            self.left_alone(asked, deepcopy(BIDS), deepcopy(HEAPS), list(SUMS))
            self.left_alone(asked, deepcopy(BIDS), [[2, 1, 0], [], []], [24, -12, -12])
            self.left_alone(asked, [[], []], [[], []], [1, -1])

    def test_in_heaps(self):
        self.left_alone(in_heaps, deepcopy(BIDS))
        self.left_alone(in_heaps, [[], []])
        self.left_alone(in_heaps, [[3, 1, 2]])

    def test_what_is_refused(self):
        for asked in (gains, envies, fair):
            self.left_alone(asked, [[1, 2], [True, 3]], deepcopy(HEAPS), list(SUMS))
            self.left_alone(asked, deepcopy(BIDS), [[2, True], [1], [0]], list(SUMS))
            self.left_alone(asked, deepcopy(BIDS), [[2, 0], [1]], list(SUMS))
            self.left_alone(asked, deepcopy(BIDS), [[2, 0], [1, 0, -1], []], [3])
        self.left_alone(in_heaps, [[1, 2], [3]])
        self.left_alone(in_heaps, [[1, 2], [3, None]])


class Told(unittest.TestCase):
    def test_worth(self):
        row, heap = [9, 1, 4], [2, 0]
        self.assertEqual(worth(row, heap), 13)
        heap.append(1)
        row[0] = 100
        self.assertEqual(worth(row, heap), 105)

    def test_gains(self):
        told = gains(BIDS, HEAPS, SUMS)
        self.assertEqual(told, [22, 6, 2])
        told.append("mine")
        told[0] = "mine"
        self.assertEqual(gains(BIDS, HEAPS, SUMS), [22, 6, 2])

    def test_gains_stay_when_what_was_handed_in_changes(self):
        bids, heaps, sums = deepcopy(BIDS), deepcopy(HEAPS), list(SUMS)
        told = gains(bids, heaps, sums)
        bids[0][0] = 100
        heaps[0].append(1)
        sums[1] = 0
        self.assertEqual(told, [22, 6, 2])
        self.assertEqual(gains(bids, heaps, sums), [298, 36, 2])

    def test_envies(self):
        told = envies(BIDS, HEAPS, SUMS)
        self.assertEqual(told, [(2, 0)])
        told.append("mine")
        told[0] = "mine"
        self.assertEqual(envies(BIDS, HEAPS, SUMS), [(2, 0)])

    def test_envies_stay_when_what_was_handed_in_changes(self):
        bids, heaps, sums = deepcopy(BIDS), deepcopy(HEAPS), list(SUMS)
        told = envies(bids, heaps, sums)
        sums[0] = 1000
        bids[2][0] = 0
        heaps.reverse()
        self.assertEqual(told, [(2, 0)])

    def test_fair(self):
        bids, heaps, sums = [[10], [6]], [[0], []], [8, -8]
        self.assertIs(fair(bids, heaps, sums), True)
        sums[0] = 9
        self.assertIs(fair(bids, heaps, sums), False)
        sums[1] = -9
        self.assertIs(fair(bids, heaps, sums), True)
        heaps[0].append(0)
        self.assertIs(fair(bids, heaps, sums), False)

    def test_in_heaps(self):
        first = in_heaps(BIDS)
        again = deepcopy(first)
        heaps, sums = first
        heaps[0].append("mine")
        heaps[1].clear()
        heaps.pop()
        sums[0] = "mine"
        sums.append("mine")
        self.assertEqual(in_heaps(BIDS), again)
        self.assertEqual(BIDS, [[9, 1, 4], [2, 8, 4], [5, 5, 5]])

    def test_in_heaps_stays_when_what_was_handed_in_changes(self):
        bids = deepcopy(BIDS)
        told = in_heaps(bids)
        again = deepcopy(told)
        bids[0][0] = 0
        bids[1].clear()
        bids.pop()
        in_heaps([[1, 2], [2, 1]])
        self.assertEqual(told, again)

    def test_two_answers_share_nothing(self):
        first, second = in_heaps(BIDS), in_heaps(BIDS)
        first[0][0].append("mine")
        first[0].append("mine")
        first[1].append("mine")
        self.assertEqual(second, in_heaps(BIDS))

    def test_heaps_of_one_list_may_be_handed_in(self):
        row, heap = [4, 4], []
        self.assertEqual(gains([row, row], [heap, heap], [0, 0]), [0, 0])
        self.assertEqual(in_heaps([row, row]), ([[0, 1], []], [8, -8]))


if __name__ == "__main__":
    unittest.main()
