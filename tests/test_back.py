"""Point 10: deeds are taken back, to the very first one."""

import unittest
from itertools import product

from fairsplit.errors import SplitError
from fairsplit.tables import Table
from tests.plain import MOST, PlainTable, table_of

REFUSED = (
    ("come", [1]), ("come", [-1, 2]), ("leave", 2), ("leave", -1), ("leave", True), ("put", [1]), ("put", [1, None]),
    ("take", 2), ("take", -1), ("take", False), ("bid", 2, 0, 1), ("bid", 0, 2, 1), ("bid", 0, 0, -1),
    ("bid", 0, 0, True),
)


class Back(unittest.TestCase):
    def test_of_a_new_table(self):
        table = Table()
        self.assertIs(table.back(), False)
        self.assertIs(table.back(), False)
        self.assertEqual(table.rows(), [])
        table.put([])
        table.come([5])
        self.assertEqual(table.rows(), [[5]])

    def test_each_kind_of_deed(self):
        rows = [[1, 2, 3], [4, 5, 6], [7, 8, 9]]
        deeds = (("come", [0, 0, 0]), ("leave", 1), ("put", [4, 4, 4]), ("take", 1), ("bid", 1, 1, 99))
        for name, *told in deeds:
            with self.subTest(name=name):
                table = table_of(rows)
                getattr(table, name)(*told)
                self.assertNotEqual(table.rows(), rows)
                self.assertIs(table.back(), True)
                self.assertEqual(table.rows(), rows)

    def test_who_left_comes_back_in_the_same_place(self):
        for person in range(3):
            table = table_of([[1, 2], [3, 4], [5, 6]])
            table.leave(person)
            table.bid(1, 1, 77)
            table.back()
            table.back()
            self.assertEqual(table.rows(), [[1, 2], [3, 4], [5, 6]])

    def test_a_good_that_was_taken_comes_back_in_the_same_place(self):
        for good in range(3):
            table = table_of([[1, 2, 3], [4, 5, 6]])
            table.take(good)
            table.put([0, MOST])
            table.back()
            table.back()
            self.assertEqual(table.rows(), [[1, 2, 3], [4, 5, 6]])

    def test_goods_without_persons_are_taken_back_too(self):
        table = Table()
        table.put([])
        table.put([])
        self.assertIs(table.back(), True)
        table.come([5])
        self.assertEqual(table.rows(), [[5]])
        table.leave(0)
        table.take(0)
        table.come([])
        self.assertEqual(table.rows(), [[]])
        table.back()
        table.back()
        table.come([6])
        self.assertEqual(table.rows(), [[6]])

    def test_the_same_amount_is_a_deed(self):
        table = table_of([[1, 2]])
        table.bid(0, 0, 5)
        table.bid(0, 0, 5)
        self.assertIs(table.back(), True)
        self.assertEqual(table.rows(), [[5, 2]])
        self.assertIs(table.back(), True)
        self.assertEqual(table.rows(), [[1, 2]])

    def test_what_is_refused_is_no_deed(self):
        for name, *told in REFUSED:
            with self.subTest(name=name, told=told):
                table = table_of([[1, 2], [3, 4]])
                table.bid(0, 1, 9)
                with self.assertRaises(SplitError):
                    getattr(table, name)(*told)
                self.assertEqual(table.rows(), [[1, 9], [3, 4]])
                self.assertIs(table.back(), True)
                self.assertEqual(table.rows(), [[1, 2], [3, 4]])

    def test_what_is_refused_of_a_full_table_is_no_deed(self):
        table = table_of([[1] * 40] * 9)
        table.bid(0, 0, 2)
        for name in ("come", "put"):
            with self.assertRaises(SplitError):
                getattr(table, name)([1] * 40)
        self.assertIs(table.back(), True)
        self.assertEqual(table.rows(), [[1] * 40] * 9)

    def test_what_is_asked_is_no_deed(self):
        table = table_of([[1, 2], [3, 4]])
        table.bid(1, 1, 9)
        table.rows()
        table.in_heaps()
        table.in_rooms()
        self.assertIs(table.back(), True)
        self.assertEqual(table.rows(), [[1, 2], [3, 4]])

    def test_back_is_no_deed(self):
        table = table_of([[1]])
        for amount in (2, 3, 4):
            table.bid(0, 0, amount)
        for amount in (3, 2, 1):
            self.assertIs(table.back(), True)
            self.assertEqual(table.rows(), [[amount]])

    def test_deeds_behind_back(self):
        table = table_of([[1, 2]])
        table.bid(0, 0, 7)
        table.bid(0, 1, 8)
        table.back()
        table.put([9])
        self.assertEqual(table.rows(), [[7, 2, 9]])
        told = [(table.back(), table.rows()) for _ in range(6)]
        self.assertEqual(told[:3], [(True, [[7, 2]]), (True, [[1, 2]]), (True, [])])
        self.assertEqual(told[3:], [(True, []), (True, []), (False, [])])

    def test_all_to_the_very_first(self):
        table = table_of([[1, 2], [3, 4]])
        for person, good, amount in product(range(2), range(2), range(500)):
            table.bid(person, good, amount)
        for _ in range(2000 + 4):
            self.assertIs(table.back(), True)
        self.assertIs(table.back(), False)
        self.assertIs(table.back(), False)
        self.assertEqual(table.rows(), [])
        # Neither goods are left nor persons.
        table.come([])
        self.assertEqual(table.rows(), [[]])


DEEDS = (
    ("come", [1, 2]), ("come", [3]), ("come", []), ("leave", 0), ("leave", 1), ("put", []), ("put", [5]),
    ("put", [6, 7]), ("take", 0), ("take", 1), ("bid", 0, 0, 8), ("bid", 1, 0, 9), ("bid", 1, 1, -1), ("back",),
)


class AsTheDocumentSays(unittest.TestCase):
    def do(self, table, deed):
        """Do the deed, and tell what is answered or refused."""
        name, *told = deed
        try:
            return getattr(table, name)(*told)
        except SplitError as refusal:
            return refusal.__class__.__name__

    def check(self, deeds):
        """Do all these deeds, and then take back what was done to the very first."""
        table, plain = Table(), PlainTable()
        for number, deed in enumerate(deeds):
            self.assertEqual(self.do(table, deed), plain.do(*deed), (deeds, number))
            self.assertEqual(table.rows(), plain.state()[0], (deeds, number))
        while plain.do("back"):
            self.assertIs(table.back(), True, deeds)
            self.assertEqual(table.rows(), plain.state()[0], deeds)
        self.assertIs(table.back(), False, deeds)

    def test_all_rows_of_a_few_deeds(self):
        for deeds in product(DEEDS, repeat=3):
            self.check(deeds)
        for deeds in product(DEEDS, repeat=2):
            self.check((("come", []), ("put", [4]), ("come", [6])) + deeds)
            self.check((("put", []), ("put", []), ("come", [1, 2]), ("leave", 0)) + deeds)

    def test_long_rows_of_deeds(self):
        last = 1
        for _ in range(60):
            deeds = []
            for _ in range(80):
                last = (last * 6364136223846793005 + 1442695040888963407) % 2**64
                deeds.append(DEEDS[(last >> 33) % len(DEEDS)])
            self.check(deeds)


if __name__ == "__main__":
    unittest.main()
