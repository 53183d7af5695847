"""Point 1 of a table: what is handed to it and what it tells is the asker's own."""

import unittest
from copy import deepcopy

from fairsplit.errors import SplitError
from fairsplit.tables import Table
from tests.plain import table_of

ROWS = [[9, 4], [6, 8], [7, 2]]


class HandedToATable(unittest.TestCase):
    def left_alone(self, table, name, line):
        before = repr(line)
        try:
            getattr(table, name)(line)
        except SplitError:
            pass
        self.assertEqual(repr(line), before)

    def test_nothing_is_changed(self):
        for line in ([1, 2], [1], [1, None], [True, 2], []):
            self.left_alone(table_of(ROWS), "come", line)
        for line in ([1, 2, 3], [1], [1, None, 3], [True, 2, 3], []):
            self.left_alone(table_of(ROWS), "put", line)

    def test_no_deed_changes_a_row_that_was_handed_in(self):
        row = [1, 2]
        table = table_of([[3, 4]])
        table.come(row)
        for deed in (
            lambda: table.bid(1, 0, 99), lambda: table.put([5, 6]), lambda: table.take(0), table.back,
            lambda: table.leave(0), table.back, table.back, table.back, table.back,
        ):
            deed()
            self.assertEqual(row, [1, 2])

    def test_no_deed_changes_a_column_that_was_handed_in(self):
        column = [1, 2, 3]
        table = table_of(ROWS)
        table.put(column)
        for deed in (
            lambda: table.bid(0, 2, 99), lambda: table.leave(1), lambda: table.take(2),
            table.back, table.back, table.back, table.back,
        ):
            deed()
            self.assertEqual(column, [1, 2, 3])

    def test_a_row_that_is_changed_behind_come(self):
        table = table_of([[9, 4]])
        row = [6, 8]
        table.come(row)
        row[0] = 1000
        row.append("mine")
        self.assertEqual(table.rows(), [[9, 4], [6, 8]])
        self.assertEqual(table.in_heaps(), ([[0], [1]], [1, -1]))
        table.leave(0)
        row.clear()
        table.back()
        self.assertEqual(table.rows(), [[9, 4], [6, 8]])

    def test_a_column_that_is_changed_behind_put(self):
        table = table_of([[9], [6]])
        column = [4, 8]
        table.put(column)
        column[0] = 1000
        column.append("mine")
        self.assertEqual(table.rows(), [[9, 4], [6, 8]])
        table.take(1)
        column.clear()
        table.back()
        self.assertEqual(table.rows(), [[9, 4], [6, 8]])

    def test_the_empty_lines_are_the_askers_too(self):
        row, column = [], []
        table = Table()
        table.come(row)
        row.append(5)
        self.assertEqual(table.rows(), [[]])
        table.leave(0)
        table.put(column)
        column.append(5)
        table.come([7])
        self.assertEqual(table.rows(), [[7]])
        self.assertEqual((row, column), ([5], [5]))

    def test_one_row_that_is_handed_in_several_times(self):
        row = [1, 2]
        first, second = table_of([row, row, row]), table_of([row])
        first.bid(1, 0, 9)
        self.assertEqual(first.rows(), [[1, 2], [9, 2], [1, 2]])
        self.assertEqual(second.rows(), [[1, 2]])
        self.assertEqual(row, [1, 2])


class ToldByATable(unittest.TestCase):
    def spoil(self, told):
        """Change all lists of what was told."""
        for part in list(told):
            if part.__class__ is list:
                self.spoil(part)
        if told.__class__ is list:
            told.append("mine")
            told[0] = "mine"
            told.reverse()

    def test_what_is_done_to_it_changes_nothing(self):
        table = table_of(ROWS)
        for asked in (table.rows, table.in_heaps, table.in_rooms):
            first, second = asked(), asked()
            again = deepcopy(first)
            self.spoil(first)
            self.assertEqual(second, again)
            self.assertEqual(asked(), again)
            self.assertEqual(table.rows(), ROWS)
        for rows in (ROWS[:2], ROWS[:1], []):
            table.back()
            self.assertEqual(table.rows(), rows)

    def test_rows_of_a_table_without_people(self):
        table = Table()
        table.rows().append([])
        self.assertEqual(table.rows(), [])
        table.come([])
        table.rows()[0].append(5)
        self.assertEqual(table.rows(), [[]])

    def test_rows_that_were_changed_are_not_what_comes_back(self):
        table = table_of(ROWS)
        for name, *told in (("bid", 0, 0, 1), ("leave", 0), ("take", 0), ("put", [1, 2, 3]), ("come", [1, 2])):
            self.spoil(table.rows())
            getattr(table, name)(*told)
            self.spoil(table.rows())
            self.assertIs(table.back(), True)
            self.assertEqual(table.rows(), ROWS)

    def test_no_later_deed_changes_it(self):
        table = table_of(ROWS)
        told = [table.rows(), table.in_heaps(), table.in_rooms()]
        again = deepcopy(told)
        for deed in (
            lambda: table.bid(0, 0, 99), lambda: table.bid(1, 1, 0), lambda: table.put([1, 2, 3]),
            lambda: table.take(0), lambda: table.come([5, 5]), lambda: table.leave(1),
            table.back, table.back, table.back, table.back, table.back, table.back, table.back, table.back,
        ):
            deed()
            self.assertEqual(told, again)


if __name__ == "__main__":
    unittest.main()
