"""Point 1: what is handed in stays as it was, and what is told is the asker's own."""

import unittest
from copy import deepcopy

from fairsplit.errors import SplitError
from fairsplit.heaps import in_heaps
from fairsplit.notes import read, shown
from fairsplit.rooms import in_rooms
from fairsplit.worths import envies, fair, gains, worth

BIDS = [[9, 1, 4], [2, 8, 4], [5, 5, 5]]
HEAPS = [[0], [2, 1], []]
SUMS = [5, 30, -2]


class HandedIn(unittest.TestCase):
    def left_alone(self, asked, *handed):
        before = deepcopy(handed)
        parts = [[id(part) for part in thing] for thing in handed]
        try:
            asked(*handed)
        except SplitError:
            pass
        with self.subTest(asked=asked.__name__, handed=before):
            # By repr too, since 1 and True are equal.
            self.assertEqual(repr(handed), repr(before))
            self.assertEqual([[id(part) for part in thing] for thing in handed], parts)

    def test_worth(self):
        self.left_alone(worth, [9, 1, 4], [2, 0, 2])
        self.left_alone(worth, [], [])

    def test_with_a_deal(self):
        for asked in (gains, envies, fair):
            self.left_alone(asked, deepcopy(BIDS), deepcopy(HEAPS), list(SUMS))
            self.left_alone(asked, deepcopy(BIDS), [[2, 1, 0], [], []], [24, -12, -12])
            self.left_alone(asked, [[], []], [[], []], [1, -1])

    def test_in_heaps(self):
        self.left_alone(in_heaps, deepcopy(BIDS))
        self.left_alone(in_heaps, [[], []])
        self.left_alone(in_heaps, [[3, 1, 2]])

    def test_in_rooms(self):
        self.left_alone(in_rooms, deepcopy(BIDS))
        self.left_alone(in_rooms, [[], []])
        self.left_alone(in_rooms, [[5], [3], [4]])
        self.left_alone(in_rooms, [[5, 3], [3, 6], [4, 4], [0, 0]])

    def test_shown(self):
        self.left_alone(shown, deepcopy(BIDS))
        self.left_alone(shown, [[], []])

    def test_what_is_refused(self):
        for asked in (gains, envies, fair):
            self.left_alone(asked, [[1, 2], [True, 3]], deepcopy(HEAPS), list(SUMS))
            self.left_alone(asked, deepcopy(BIDS), [[2, True], [1], [0]], list(SUMS))
            self.left_alone(asked, deepcopy(BIDS), [[2, 0], [1]], list(SUMS))
            self.left_alone(asked, deepcopy(BIDS), [[2, 0], [1, 0, -1], []], [3])
        for asked in (in_heaps, in_rooms, shown):
            self.left_alone(asked, [[1, 2], [3]])
            self.left_alone(asked, [[1, 2], [3, None]])
            self.left_alone(asked, [[1], [2]] * 5)
        self.left_alone(in_rooms, [[1, 2, 3], [4, 5, 6]])


class Told(unittest.TestCase):
    def test_worth(self):
        row, heap = [9, 1, 4], [2, 0]
        self.assertEqual(worth(row, heap), 13)
        heap.append(1)
        row[0] = 100
        self.assertEqual(worth(row, heap), 105)

    def test_gains(self):
        told = gains(BIDS, HEAPS, SUMS)
        self.assertEqual(told, [22, 6, 2])
        told.append("mine")
        told[0] = "mine"
        self.assertEqual(gains(BIDS, HEAPS, SUMS), [22, 6, 2])

    def test_gains_stay_when_what_was_handed_in_changes(self):
        bids, heaps, sums = deepcopy(BIDS), deepcopy(HEAPS), list(SUMS)
        told = gains(bids, heaps, sums)
        bids[0][0] = 100
        heaps[0].append(1)
        sums[1] = 0
        self.assertEqual(told, [22, 6, 2])
        self.assertEqual(gains(bids, heaps, sums), [298, 36, 2])

    def test_envies(self):
        told = envies(BIDS, HEAPS, SUMS)
        self.assertEqual(told, [(2, 0)])
        told.append("mine")
        told[0] = "mine"
        self.assertEqual(envies(BIDS, HEAPS, SUMS), [(2, 0)])

    def test_envies_stay_when_what_was_handed_in_changes(self):
        bids, heaps, sums = deepcopy(BIDS), deepcopy(HEAPS), list(SUMS)
        told = envies(bids, heaps, sums)
        sums[0] = 1000
        bids[2][0] = 0
        heaps.reverse()
        self.assertEqual(told, [(2, 0)])

    def test_fair(self):
        bids, heaps, sums = [[10], [6]], [[0], []], [8, -8]
        self.assertIs(fair(bids, heaps, sums), True)
        sums[0] = 9
        self.assertIs(fair(bids, heaps, sums), False)
        sums[1] = -9
        self.assertIs(fair(bids, heaps, sums), True)
        heaps[0].append(0)
        self.assertIs(fair(bids, heaps, sums), False)

    def test_deals(self):
        for asked in (in_heaps, in_rooms):
            first = asked(BIDS)
            again = deepcopy(first)
            heaps, sums = first
            heaps[0].append("mine")
            heaps[1].clear()
            heaps.pop()
            sums[0] = "mine"
            sums.append("mine")
            self.assertEqual(asked(BIDS), again)
            self.assertEqual(BIDS, [[9, 1, 4], [2, 8, 4], [5, 5, 5]])

    def test_deals_stay_when_what_was_handed_in_changes(self):
        for asked in (in_heaps, in_rooms):
            for bids in (deepcopy(BIDS), [[5], [6], [6]], [[0, 0], [0, 0]]):
                told = asked(bids)
                again = deepcopy(told)
                bids[0][0] = 1000
                bids[1].clear()
                bids.pop()
                asked([[1, 2], [2, 1]])
                self.assertEqual(told, again)

    def test_in_rooms_of_bids_that_were_changed(self):
        bids = [[9, 4], [6, 8]]
        self.assertEqual(in_rooms(bids)[0], [[0], [1]])
        bids[0][1] = 20
        self.assertEqual(in_rooms(bids)[0], [[1], [0]])
        bids.append([30, 0])
        self.assertEqual(in_rooms(bids)[0], [[1], [], [0]])

    def test_two_answers_share_nothing(self):
        for asked in (in_heaps, in_rooms):
            for bids in (BIDS, [[3], [4], [4]]):
                first, second = asked(bids), asked(bids)
                first[0][0].append("mine")
                first[0].append("mine")
                first[1].append("mine")
                self.assertEqual(second, asked(bids))

    def test_shown_of_bids_that_were_changed(self):
        bids = [[1, 2], [3, 4]]
        told = shown(bids)
        bids[0][0] = 9
        bids.pop()
        self.assertEqual(told, "1 2\n3 4\n")
        self.assertEqual(shown(bids), "9 2\n")

    def test_read(self):
        text = "1 2\n3 4\n"
        first, second = read(text), read(text)
        first[0].append("mine")
        first[1][0] = "mine"
        first.append("mine")
        self.assertEqual(second, [[1, 2], [3, 4]])
        self.assertEqual(read(text), [[1, 2], [3, 4]])

    def test_read_lines_that_are_alike(self):
        for text, line in (("5\n5\n5\n", [5]), ("\n\n\n", [])):
            told = read(text)
            told[0].append("mine")
            self.assertEqual(told, [line + ["mine"], line, line])
            self.assertEqual(read(text), [line, line, line])

    def test_heaps_of_one_list_may_be_handed_in(self):
        row, heap = [4, 4], []
        self.assertEqual(gains([row, row], [heap, heap], [0, 0]), [0, 0])
        self.assertEqual(in_heaps([row, row]), ([[0, 1], []], [8, -8]))
        self.assertIs(fair([row, row], *in_rooms([row, row])), True)
        self.assertEqual(shown([row, row]), "4 4\n4 4\n")
        self.assertEqual(row, [4, 4])


if __name__ == "__main__":
    unittest.main()
