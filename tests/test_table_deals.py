"""Point 11: the deals of a table are those of its rows."""

import unittest

from fairsplit.errors import NoPeople, TooMany
from fairsplit.heaps import in_heaps
from fairsplit.rooms import in_rooms
from fairsplit.tables import Table
from fairsplit.worths import fair
from tests.plain import table_of


class TableDeals(unittest.TestCase):
    def check(self, table, rows):
        """Look whether these rows stand, and whether the deals are theirs."""
        with self.subTest(rows=rows):
            self.assertEqual(table.rows(), rows)
            heaps = table.in_heaps()
            self.assertEqual(heaps, in_heaps(rows))
            self.assertIs(heaps.__class__, tuple)
            self.assertIs(fair(rows, *heaps), True)
            if len(rows[0]) > len(rows):
                with self.assertRaises(TooMany):
                    table.in_rooms()
            else:
                rooms = table.in_rooms()
                self.assertEqual(rooms, in_rooms(rows))
                self.assertIs(rooms.__class__, tuple)
                self.assertIs(fair(rows, *rooms), True)
            self.assertEqual(table.rows(), rows)

    def test_behind_each_kind_of_deed_and_back(self):
        table = table_of([[9, 4], [6, 8]])
        self.check(table, [[9, 4], [6, 8]])
        table.come([7, 2])
        self.check(table, [[9, 4], [6, 8], [7, 2]])
        table.put([1, 5, 3])
        self.check(table, [[9, 4, 1], [6, 8, 5], [7, 2, 3]])
        table.bid(2, 0, 99)
        self.check(table, [[9, 4, 1], [6, 8, 5], [99, 2, 3]])
        table.leave(1)
        self.check(table, [[9, 4, 1], [99, 2, 3]])
        table.take(0)
        self.check(table, [[4, 1], [2, 3]])
        for rows in (
            [[9, 4, 1], [99, 2, 3]], [[9, 4, 1], [6, 8, 5], [99, 2, 3]], [[9, 4, 1], [6, 8, 5], [7, 2, 3]],
            [[9, 4], [6, 8], [7, 2]], [[9, 4], [6, 8]], [[9, 4]],
        ):
            self.assertIs(table.back(), True)
            self.check(table, rows)

    def test_what_they_are(self):
        table = table_of([[9, 4], [6, 8]])
        self.assertEqual(table.in_heaps(), ([[0], [1]], [1, -1]))
        heaps, _ = table.in_rooms()
        self.assertEqual(heaps, [[0], [1]])
        table.bid(0, 1, 20)
        self.assertEqual(table.in_heaps(), ([[0, 1], []], [29, -29]))
        heaps, _ = table.in_rooms()
        self.assertEqual(heaps, [[1], [0]])

    def test_people_without_goods(self):
        table = Table()
        table.come([])
        self.check(table, [[]])
        table.come([])
        self.check(table, [[], []])

    def test_asked_again_and_again(self):
        table = table_of([[5, 5], [5, 5], [5, 5]])
        first = (table.in_heaps(), table.in_rooms())
        self.assertEqual((table.in_heaps(), table.in_rooms()), first)
        table.bid(0, 0, 6)
        self.check(table, [[6, 5], [5, 5], [5, 5]])
        table.back()
        self.assertEqual((table.in_heaps(), table.in_rooms()), first)

    def nobody(self, table):
        for asked in (table.in_heaps, table.in_rooms):
            with self.assertRaises(NoPeople):
                asked()
        self.assertEqual(table.rows(), [])

    def test_without_people(self):
        self.nobody(Table())
        self.nobody(table_of([], 1))
        self.nobody(table_of([], 40))
        table = table_of([[1, 2]])
        table.leave(0)
        self.nobody(table)
        table.back()
        self.check(table, [[1, 2]])
        table.back()
        self.nobody(table)

    def test_more_goods_than_people(self):
        table = table_of([[1, 2, 3], [4, 5, 6]])
        with self.assertRaises(TooMany):
            table.in_rooms()
        self.check(table, [[1, 2, 3], [4, 5, 6]])
        table.come([7, 8, 9])
        self.check(table, [[1, 2, 3], [4, 5, 6], [7, 8, 9]])
        self.check(table_of([[1] * 40] * 3), [[1] * 40] * 3)

    def test_a_refused_deal_is_no_deed(self):
        table = table_of([[1, 2]])
        table.bid(0, 0, 9)
        with self.assertRaises(TooMany):
            table.in_rooms()
        self.assertIs(table.back(), True)
        self.assertEqual(table.rows(), [[1, 2]])


if __name__ == "__main__":
    unittest.main()
