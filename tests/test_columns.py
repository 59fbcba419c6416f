"""Points 14 and 15: inserting by columns, and taking out by columns."""

import unittest

from coverpapers.columns import insert_by_columns, take_by_columns
from tests.examples import BIG, InsertionChecks, cells_of, rows_of_cells


class InsertByColumnsTest(InsertionChecks, unittest.TestCase):
    insert = staticmethod(insert_by_columns)
    take = staticmethod(take_by_columns)

    def insert_as_told(self, table, letter):
        cells = cells_of(table)
        column = 0
        while True:
            height = len([r for r, c in cells if c == column])
            not_less = [r for r in range(height) if cells[r, column] >= letter]
            if not not_less:
                cells[height, column] = letter
                return rows_of_cells(cells), (height, column)
            letter, cells[not_less[0], column] = cells[not_less[0], column], letter
            column += 1

    def test_into_the_empty_table(self):
        for letter in (0, 4, -BIG):
            self.assertEqual(insert_by_columns((), letter), (((letter,),), (0, 0)))

    def test_the_example_of_the_document(self):
        self.assertEqual(insert_by_columns(((1, 2, 2), (3,)), 1), (((1, 1, 2, 2), (3,)), (0, 3)))

    def test_a_letter_appended_to_the_first_column(self):
        self.assertEqual(insert_by_columns(((1, 2, 2), (3,)), 4), (((1, 2, 2), (3,), (4,)), (2, 0)))
        self.assertEqual(insert_by_columns(((-1, -1),), 0), (((-1, -1), (0,)), (1, 0)))

    def test_a_new_column(self):
        self.assertEqual(insert_by_columns(((2,),), 1), (((1, 2),), (0, 1)))
        self.assertEqual(insert_by_columns(((1,), (2,), (3,)), 1), (((1, 1), (2,), (3,)), (0, 1)))

    def test_a_letter_appended_to_a_column_further_right(self):
        self.assertEqual(insert_by_columns(((1, 2), (3,)), 2), (((1, 2), (2, 3)), (1, 1)))
        self.assertEqual(insert_by_columns(((0, 1, 2), (3, 4)), 3), (((0, 1, 2), (3, 3, 4)), (1, 2)))

    def test_equal_letters(self):
        self.assertEqual(insert_by_columns(((1,),), 1), (((1, 1),), (0, 1)))
        self.assertEqual(insert_by_columns(((0, 0), (1, 1)), 1), (((0, 0, 1), (1, 1)), (0, 2)))
        self.assertEqual(insert_by_columns(((0, 0, 0),), 0), (((0, 0, 0, 0),), (0, 3)))

    def test_large_letters(self):
        self.assertEqual(insert_by_columns(((-BIG, BIG),), BIG + 1), (((-BIG, BIG), (BIG + 1,)), (1, 0)))
        self.assertEqual(insert_by_columns(((-BIG, BIG),), -BIG - 1), (((-BIG - 1, -BIG, BIG),), (0, 2)))

    def test_taking_out(self):
        self.assertEqual(take_by_columns(((1, 1, 2, 2), (3,)), (0, 3)), (((1, 2, 2), (3,)), 1))
        self.assertEqual(take_by_columns(((1, 1, 2, 2), (3,)), (1, 0)), (((1, 1, 2, 2),), 3))
        # equal letters: the bottommost letter that is not greater is replaced, also an equal one
        self.assertEqual(take_by_columns(((0, 1), (1,)), (0, 1)), (((0,), (1,)), 1))
        self.assertEqual(take_by_columns(((0, 0), (1, 2)), (1, 1)), (((0, 0), (2,)), 1))


if __name__ == "__main__":
    unittest.main()
