"""Point 10: the deeds of a table and their refusals; point 11: its rows."""

import unittest

from fairsplit.errors import BadBid, NoGood, NoPerson, TooMany, Uneven
from fairsplit.tables import Table
from tests.plain import MOST, NO_NUMBERS, Case, table_of

BAD = NO_NUMBERS + (-1, MOST + 1, -MOST)


class TableCase(Case):
    def refused(self, kind, table, name, *told):
        """Look whether this deed is refused, changes nothing and is no deed."""
        before = repr(table.rows())
        with self.subTest(name=name, told=told, rows=before):
            self.refuses(kind, getattr(table, name), *told)
            self.assertEqual(repr(table.rows()), before)

    def done(self, table, name, *told):
        self.assertIsNone(getattr(table, name)(*told))


class Deeds(TableCase):
    def test_at_first_there_is_nothing(self):
        table = Table()
        self.assertEqual(table.rows(), [])
        self.assertIs(table.rows().__class__, list)
        self.refused(NoPerson, table, "leave", 0)
        self.refused(NoGood, table, "take", 0)

    def test_come(self):
        table = Table()
        self.done(table, "put", [])
        self.done(table, "put", [])
        self.done(table, "come", [9, 4])
        self.assertEqual(table.rows(), [[9, 4]])
        self.done(table, "come", [6, 8])
        self.done(table, "come", [0, MOST])
        self.assertEqual(table.rows(), [[9, 4], [6, 8], [0, MOST]])

    def test_leave(self):
        table = table_of([[1, 2], [3, 4], [5, 6], [7, 8]])
        self.done(table, "leave", 1)
        self.assertEqual(table.rows(), [[1, 2], [5, 6], [7, 8]])
        self.done(table, "leave", 2)
        self.assertEqual(table.rows(), [[1, 2], [5, 6]])
        self.done(table, "leave", 0)
        self.assertEqual(table.rows(), [[5, 6]])
        self.done(table, "leave", 0)
        self.assertEqual(table.rows(), [])

    def test_put(self):
        table = table_of([[], []])
        self.done(table, "put", [1, 2])
        self.assertEqual(table.rows(), [[1], [2]])
        self.done(table, "put", [MOST, 0])
        self.assertEqual(table.rows(), [[1, MOST], [2, 0]])

    def test_take(self):
        table = table_of([[1, 2, 3, 4], [5, 6, 7, 8]])
        self.done(table, "take", 1)
        self.assertEqual(table.rows(), [[1, 3, 4], [5, 7, 8]])
        self.done(table, "take", 2)
        self.assertEqual(table.rows(), [[1, 3], [5, 7]])
        self.done(table, "take", 0)
        self.done(table, "take", 0)
        self.assertEqual(table.rows(), [[], []])
        self.refused(NoGood, table, "take", 0)

    def test_bid(self):
        table = table_of([[1, 2, 3], [4, 5, 6]])
        self.done(table, "bid", 1, 0, 9)
        self.assertEqual(table.rows(), [[1, 2, 3], [9, 5, 6]])
        self.done(table, "bid", 0, 2, 0)
        self.done(table, "bid", 0, 1, MOST)
        self.assertEqual(table.rows(), [[1, MOST, 0], [9, 5, 6]])

    def test_bid_where_rows_are_equal(self):
        table = table_of([[1, 1], [1, 1], [1, 1]])
        table.bid(1, 0, 5)
        self.assertEqual(table.rows(), [[1, 1], [5, 1], [1, 1]])

    def test_persons_without_goods(self):
        table = Table()
        for people in range(1, 10):
            self.done(table, "come", [])
            self.assertEqual(table.rows(), [[]] * people)
        self.refused(NoGood, table, "bid", 0, 0, 1)
        table.put([1, 2, 3, 4, 5, 6, 7, 8, 9])
        self.assertEqual(table.rows(), [[1], [2], [3], [4], [5], [6], [7], [8], [9]])

    def test_goods_without_persons(self):
        table = Table()
        for _ in range(40):
            self.done(table, "put", [])
            self.assertEqual(table.rows(), [])
        self.refused(TooMany, table, "put", [])
        self.refused(Uneven, table, "come", [1] * 39)
        self.refused(Uneven, table, "come", [])
        self.refused(NoPerson, table, "bid", 0, 0, 1)
        self.done(table, "take", 39)
        self.refused(NoGood, table, "take", 39)
        self.done(table, "come", list(range(39)))
        self.assertEqual(table.rows(), [list(range(39))])

    def test_the_last_person_has_left_and_goods_stand(self):
        table = table_of([[1, 2], [3, 4]])
        table.leave(0)
        table.leave(0)
        self.assertEqual(table.rows(), [])
        self.refused(Uneven, table, "come", [])
        self.refused(Uneven, table, "come", [1])
        self.refused(Uneven, table, "come", [1, 2, 3])
        self.refused(Uneven, table, "put", [1])
        self.done(table, "take", 0)
        self.done(table, "come", [7])
        self.assertEqual(table.rows(), [[7]])
        self.done(table, "put", [8])
        self.assertEqual(table.rows(), [[7, 8]])

    def test_the_last_person_has_left_and_no_goods_stand(self):
        table = table_of([[]])
        table.leave(0)
        self.assertEqual(table.rows(), [])
        self.refused(Uneven, table, "come", [1])
        self.refused(NoPerson, table, "leave", 0)
        self.done(table, "come", [])
        self.done(table, "come", [])
        self.assertEqual(table.rows(), [[], []])

    def test_others_join_where_one_has_left(self):
        table = table_of([[1]] * 9)
        self.refused(TooMany, table, "come", [1])
        table.leave(4)
        self.done(table, "come", [5])
        self.assertEqual(table.rows(), [[1]] * 8 + [[5]])
        self.refused(TooMany, table, "come", [1])

    def test_goods_come_where_one_was_taken(self):
        table = table_of([list(range(40))])
        self.refused(TooMany, table, "put", [1])
        table.take(3)
        self.done(table, "put", [99])
        self.assertEqual(table.rows(), [[0, 1, 2] + list(range(4, 40)) + [99]])
        self.refused(TooMany, table, "put", [1])

    def test_two_tables_beside_each_other(self):
        first, second = Table(), Table()
        first.put([])
        first.come([5])
        self.assertEqual(second.rows(), [])
        second.come([])
        second.put([7])
        second.put([8])
        first.bid(0, 0, 6)
        self.assertEqual(first.rows(), [[6]])
        self.assertEqual(second.rows(), [[7, 8]])
        second.leave(0)
        self.assertIs(first.back(), True)
        self.assertEqual(first.rows(), [[5]])
        self.assertEqual(second.rows(), [])


class RefusedDeeds(TableCase):
    def test_come(self):
        table = table_of([[1, 2], [3, 4]])
        for row in ([], [1], [1, 2, 3]):
            self.refused(Uneven, table, "come", row)
        for bad in BAD:
            self.refused(BadBid, table, "come", [bad, 1])
            self.refused(BadBid, table, "come", [1, bad])
        self.refused(Uneven, Table(), "come", [1])

    def test_come_and_which_is_told_first(self):
        table = table_of([[1, 2]] * 9)
        for row in ([1, 2], [1, 2, 3], [1], [], [-1, True], [None], [1, None, 3]):
            self.refused(TooMany, table, "come", row)
        table.leave(0)
        for row in ([-1], [True, 1, 1], [None] * 3):
            self.refused(Uneven, table, "come", row)

    def test_leave(self):
        table = table_of([[1], [2], [3]])
        for thing in NO_NUMBERS + (-1, -3, 3, 4, 9):
            self.refused(NoPerson, table, "leave", thing)

    def test_put(self):
        table = table_of([[1], [2]])
        for column in ([], [1], [1, 2, 3]):
            self.refused(Uneven, table, "put", column)
        for bad in BAD:
            self.refused(BadBid, table, "put", [bad, 1])
            self.refused(BadBid, table, "put", [1, bad])
        self.refused(Uneven, Table(), "put", [1])

    def test_put_and_which_is_told_first(self):
        table = table_of([[1] * 40, [2] * 40])
        for column in ([1, 2], [1, 2, 3], [1], [], [-1, True], [None], [1, None, 3]):
            self.refused(TooMany, table, "put", column)
        table.take(0)
        for column in ([-1], [True, 1, 1], [None] * 3):
            self.refused(Uneven, table, "put", column)

    def test_take(self):
        table = table_of([[1, 2, 3], [4, 5, 6]])
        for thing in NO_NUMBERS + (-1, -3, 3, 4, 40):
            self.refused(NoGood, table, "take", thing)

    def test_bid(self):
        table = table_of([[1, 2, 3], [4, 5, 6]])
        for thing in NO_NUMBERS + (-1, -2, 2, 3):
            self.refused(NoPerson, table, "bid", thing, 0, 1)
        for thing in NO_NUMBERS + (-1, -3, 3, 4):
            self.refused(NoGood, table, "bid", 0, thing, 1)
        for bad in BAD:
            self.refused(BadBid, table, "bid", 0, 1, bad)

    def test_bid_and_which_is_told_first(self):
        table = table_of([[1, 2, 3], [4, 5, 6]])
        for good in (0, 2, 3, -1, True):
            for amount in (1, -1, True, None, MOST + 1):
                self.refused(NoPerson, table, "bid", 2, good, amount)
                self.refused(NoPerson, table, "bid", True, good, amount)
        for amount in (-1, True, None, MOST + 1):
            self.refused(NoGood, table, "bid", 1, 3, amount)
            self.refused(NoGood, table, "bid", 1, False, amount)

    def test_as_many_persons_as_goods_may_differ(self):
        table = table_of([[1, 2, 3]])
        self.refused(NoPerson, table, "leave", 1)
        self.refused(NoPerson, table, "bid", 2, 0, 1)
        self.done(table, "bid", 0, 2, 9)
        table = table_of([[1], [2], [3]])
        self.refused(NoGood, table, "take", 1)
        self.refused(NoGood, table, "bid", 0, 2, 1)
        self.done(table, "bid", 2, 0, 9)


if __name__ == "__main__":
    unittest.main()
