"""Points 13 and 15: inserting by rows, and taking out by rows."""

import unittest
from itertools import combinations_with_replacement

from coverpapers.rows import insert_by_rows, insert_into_row, take_by_rows
from tests.examples import BIG, InsertionChecks, cells_of, rows_of_cells


def insert_into_row_as_told(row, letter):
    greater = [k for k, other in enumerate(row) if other > letter]
    if not greater:
        return (*row, letter), None
    changed = list(row)
    changed[greater[0]] = letter
    return tuple(changed), row[greater[0]]


class InsertIntoRowTest(unittest.TestCase):
    def test_no_letter_is_greater(self):
        self.assertEqual(insert_into_row((1, 2, 2), 3), ((1, 2, 2, 3), None))
        self.assertEqual(insert_into_row((1, 2, 2), 2), ((1, 2, 2, 2), None))
        self.assertEqual(insert_into_row((0,), 0), ((0, 0), None))
        self.assertEqual(insert_into_row((-3, -1), 0), ((-3, -1, 0), None))

    def test_the_empty_row(self):
        for letter in (0, 5, -BIG):
            self.assertEqual(insert_into_row((), letter), ((letter,), None))

    def test_the_leftmost_greater_letter_is_pushed_out(self):
        self.assertEqual(insert_into_row((1, 2, 3, 3, 4), 2), ((1, 2, 2, 3, 4), 3))
        self.assertEqual(insert_into_row((1, 2, 2), 1), ((1, 1, 2), 2))
        self.assertEqual(insert_into_row((2, 2, 2), 1), ((1, 2, 2), 2))
        self.assertEqual(insert_into_row((1, 1, 5), 3), ((1, 1, 3), 5))

    def test_a_letter_that_is_0_is_pushed_out(self):
        self.assertEqual(insert_into_row((0,), -1), ((-1,), 0))
        self.assertEqual(insert_into_row((-2, 0, 0, 1), -2), ((-2, -2, 0, 1), 0))

    def test_negative_and_large_letters(self):
        self.assertEqual(insert_into_row((-5, -3, -1), -4), ((-5, -4, -1), -3))
        self.assertEqual(insert_into_row((-BIG, BIG, BIG + 2), BIG + 1), ((-BIG, BIG, BIG + 1), BIG + 2))
        self.assertEqual(insert_into_row((-BIG,), -BIG - 1), ((-BIG - 1,), -BIG))

    def test_all_small_rows(self):
        for n in range(6):
            for row in combinations_with_replacement(range(-1, 3), n):
                for letter in range(-2, 4):
                    expected = insert_into_row_as_told(row, letter)
                    self.assertEqual(insert_into_row(row, letter), expected, (row, letter))

    def test_all_are_tuples(self):
        for row, letter in (((), 1), ((1, 2), 1), ((1, 2), 2)):
            returned = insert_into_row(row, letter)
            self.assertIs(type(returned), tuple)
            self.assertIs(type(returned[0]), tuple)

    def test_none_stands_for_no_letter(self):
        self.assertIsNone(insert_into_row((0, 0), 0)[1])


class InsertByRowsTest(InsertionChecks, unittest.TestCase):
    insert = staticmethod(insert_by_rows)
    take = staticmethod(take_by_rows)

    def insert_as_told(self, table, letter):
        cells = cells_of(table)
        row = 0
        while True:
            length = len([c for r, c in cells if r == row])
            greater = [c for c in range(length) if cells[row, c] > letter]
            if not greater:
                cells[row, length] = letter
                return rows_of_cells(cells), (row, length)
            letter, cells[row, greater[0]] = cells[row, greater[0]], letter
            row += 1

    def test_into_the_empty_table(self):
        for letter in (0, 4, -BIG):
            self.assertEqual(insert_by_rows((), letter), (((letter,),), (0, 0)))

    def test_the_example_of_the_document(self):
        self.assertEqual(insert_by_rows(((1, 2, 2), (3,)), 1), (((1, 1, 2), (2,), (3,)), (2, 0)))

    def test_a_new_row_at_the_bottom(self):
        self.assertEqual(insert_by_rows(((2,),), 1), (((1,), (2,)), (1, 0)))
        self.assertEqual(insert_by_rows(((0, 3), (1,)), -1), (((-1, 3), (0,), (1,)), (2, 0)))

    def test_a_letter_appended_to_the_top_row(self):
        self.assertEqual(insert_by_rows(((1, 2, 2), (3,)), 2), (((1, 2, 2, 2), (3,)), (0, 3)))
        self.assertEqual(insert_by_rows(((1,), (2,)), 5), (((1, 5), (2,)), (0, 1)))

    def test_a_letter_appended_to_a_row_further_down(self):
        self.assertEqual(insert_by_rows(((1, 3), (2,)), 2), (((1, 2), (2, 3)), (1, 1)))
        table = ((1, 2, 4), (2, 4), (5,))
        self.assertEqual(insert_by_rows(table, 1), (((1, 1, 4), (2, 2), (4,), (5,)), (3, 0)))
        self.assertEqual(insert_by_rows(table, 2), (((1, 2, 2), (2, 4, 4), (5,)), (1, 2)))
        self.assertEqual(insert_by_rows(((1, 2), (2, 3), (3,)), 1), (((1, 1), (2, 2), (3, 3)), (2, 1)))

    def test_taking_out(self):
        self.assertEqual(take_by_rows(((1, 1, 2), (2,), (3,)), (2, 0)), (((1, 2, 2), (3,)), 1))
        self.assertEqual(take_by_rows(((1, 1, 2), (2,), (3,)), (0, 2)), (((1, 1), (2,), (3,)), 2))
        # equal letters: the rightmost letter that is less is replaced, not an equal one
        self.assertEqual(take_by_rows(((1, 1, 2), (2,)), (1, 0)), (((1, 2, 2),), 1))
        self.assertEqual(take_by_rows(((0, 0, 0), (1, 1)), (1, 1)), (((0, 0, 1), (1,)), 0))
        self.assertEqual(take_by_rows(((-1, 0, 2), (0, 1)), (1, 1)), (((-1, 1, 2), (0,)), 0))


if __name__ == "__main__":
    unittest.main()
