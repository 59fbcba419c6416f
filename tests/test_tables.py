"""Point 12: tables, records, shapes, corners and reading words."""

import unittest
from itertools import product

from coverpapers.tables import conjugate, corners, is_record, is_table, reading_word, shape_of

BIG = 10 ** 40


def shapes(cells, longest):
    """Make each shape of so many cells whose rows are at most so long."""
    if cells == 0:
        yield ()
    for length in range(min(cells, longest), 0, -1):
        for below in shapes(cells - length, length):
            yield (length, *below)


def rows_of(shape, letters):
    """Give the letters out to the rows, from the top row down."""
    rows = []
    start = 0
    for length in shape:
        rows.append(tuple(letters[start:start + length]))
        start = start + length
    return tuple(rows)


def is_table_as_told(rows):
    """Check each cell against its neighbors to the right and below."""
    cells = {(r, c): letter for r, row in enumerate(rows) for c, letter in enumerate(row)}
    for (r, c), letter in cells.items():
        if (r, c + 1) in cells and cells[r, c + 1] < letter:
            return False
        if (r + 1, c) in cells and cells[r + 1, c] <= letter:
            return False
        if r > 0 and (r - 1, c) not in cells:
            return False
    return all(len(row) > 0 for row in rows)


ALL_SHAPES = [shape for cells in range(9) for shape in shapes(cells, cells)]


class IsTableTest(unittest.TestCase):
    def test_tables(self):
        for rows in (
            ((1,),),
            ((1, 2, 2), (3,)),
            ((1, 1, 1),),
            ((1,), (2,), (3,)),
            ((1, 2), (2, 3)),
            ((0, 0, 5), (1, 3), (2,)),
            ((-3, -3), (0,)),
            ((-BIG, BIG), (0, BIG + 1)),
        ):
            self.assertIs(is_table(rows), True, rows)

    def test_the_empty_table(self):
        self.assertIs(is_table(()), True)

    def test_an_empty_row(self):
        for rows in (((),), ((1,), ()), ((), (1,)), ((1, 2), (), (3,)), ((), ())):
            self.assertIs(is_table(rows), False, rows)

    def test_a_row_longer_than_the_one_above(self):
        for rows in (((1,), (2, 3)), ((1, 2), (3,), (4, 5)), ((1, 2), (3, 4, 5))):
            self.assertIs(is_table(rows), False, rows)

    def test_a_row_that_decreases(self):
        for rows in (((2, 1),), ((1, 3, 2),), ((1, 2), (4, 3)), ((1, 1), (3, 2), (4,))):
            self.assertIs(is_table(rows), False, rows)

    def test_a_column_that_does_not_strictly_increase(self):
        for rows in (((1,), (1,)), ((2,), (1,)), ((1, 2), (2, 2)), ((1, 3), (2, 2)), ((1,), (3,), (2,))):
            self.assertIs(is_table(rows), False, rows)

    def test_all_small_tuples_of_rows(self):
        for lengths in product(range(4), repeat=2):
            for letters in product(range(3), repeat=sum(lengths)):
                rows = rows_of(lengths, letters)
                self.assertIs(is_table(rows), is_table_as_told(rows), rows)


class IsRecordTest(unittest.TestCase):
    def test_records(self):
        for table in (((1,),), ((1, 2), (3, 4)), ((1, 3), (2,)), ((1, 2, 3),), ((1,), (2,), (3,))):
            self.assertIs(is_record(table), True, table)

    def test_the_empty_table(self):
        self.assertIs(is_record(()), True)

    def test_tables_that_are_none(self):
        for table in (
            ((0,),),
            ((2,),),
            ((0, 1),),
            ((1, 1),),
            ((1, 3),),
            ((1, 2, 2), (3,)),
            ((1, 2), (2, 3)),
            ((2, 3), (4,)),
            ((-1, 1), (2,)),
            ((1, BIG),),
        ):
            self.assertIs(is_record(table), False, table)


class ShapeTest(unittest.TestCase):
    def test_shape_of(self):
        self.assertEqual(shape_of(((1,),)), (1,))
        self.assertEqual(shape_of(((1, 2, 2), (3,))), (3, 1))
        self.assertEqual(shape_of(((1,), (2,), (3,))), (1, 1, 1))
        self.assertEqual(shape_of(((1, 1, 1, 1), (2, 2), (3, 3))), (4, 2, 2))

    def test_the_empty_table(self):
        self.assertEqual(shape_of(()), ())

    def test_a_shape_is_a_tuple(self):
        self.assertIs(type(shape_of(())), tuple)
        self.assertIs(type(shape_of(((1, 2), (3,)))), tuple)


class ConjugateTest(unittest.TestCase):
    def test_conjugate(self):
        self.assertEqual(conjugate((1,)), (1,))
        self.assertEqual(conjugate((3, 1)), (2, 1, 1))
        self.assertEqual(conjugate((1, 1, 1)), (3,))
        self.assertEqual(conjugate((3,)), (1, 1, 1))
        self.assertEqual(conjugate((4, 2, 2)), (3, 3, 1, 1))
        self.assertEqual(conjugate((2, 2)), (2, 2))

    def test_the_empty_shape(self):
        self.assertEqual(conjugate(()), ())
        self.assertIs(type(conjugate(())), tuple)

    def test_a_conjugate_is_a_tuple(self):
        self.assertIs(type(conjugate((3, 1))), tuple)

    def test_the_columns_of_all_small_shapes(self):
        for shape in ALL_SHAPES:
            columns = tuple(len([length for length in shape if length > c]) for c in range(max(shape, default=0)))
            self.assertEqual(conjugate(shape), columns, shape)
            self.assertEqual(conjugate(conjugate(shape)), shape)


class CornersTest(unittest.TestCase):
    def test_corners(self):
        self.assertEqual(corners(((1,),)), [(0, 0)])
        self.assertEqual(corners(((1, 2, 2), (3,))), [(0, 2), (1, 0)])
        self.assertEqual(corners(((1, 2), (2, 3))), [(1, 1)])
        self.assertEqual(corners(((1, 1, 1, 1), (2, 2), (3, 3))), [(0, 3), (2, 1)])
        self.assertEqual(corners(((1,), (2,), (3,))), [(2, 0)])
        self.assertEqual(corners(((1, 2, 3), (2, 3), (4,))), [(0, 2), (1, 1), (2, 0)])

    def test_the_empty_table(self):
        self.assertEqual(corners(()), [])

    def test_a_corner_is_a_tuple(self):
        for corner in corners(((1, 2, 2), (3,))):
            self.assertIs(type(corner), tuple)

    def test_the_corners_of_all_small_shapes(self):
        for shape in ALL_SHAPES:
            table = tuple((r,) * length for r, length in enumerate(shape))
            cells = [(r, c) for r, length in enumerate(shape) for c in range(length)]
            expected = [(r, c) for r, c in cells if (r, c + 1) not in cells and (r + 1, c) not in cells]
            self.assertEqual(corners(table), expected, table)


class ReadingWordTest(unittest.TestCase):
    def test_reading_word(self):
        self.assertEqual(reading_word(((4,),)), [4])
        self.assertEqual(reading_word(((1, 2, 2),)), [1, 2, 2])
        self.assertEqual(reading_word(((1, 2, 2), (3,))), [3, 1, 2, 2])
        self.assertEqual(reading_word(((1, 1, 1, 1), (2, 2), (3, 4))), [3, 4, 2, 2, 1, 1, 1, 1])
        self.assertEqual(reading_word(((-BIG,), (0,), (BIG,))), [BIG, 0, -BIG])

    def test_the_empty_table(self):
        self.assertEqual(reading_word(()), [])

    def test_each_call_returns_a_list_of_its_own(self):
        table = ((1, 2, 2), (3,))
        first = reading_word(table)
        first.append(9)
        self.assertEqual(reading_word(table), [3, 1, 2, 2])
        places = corners(table)
        places.clear()
        self.assertEqual(corners(table), [(0, 2), (1, 0)])


if __name__ == "__main__":
    unittest.main()
