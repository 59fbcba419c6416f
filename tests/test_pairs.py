"""Point 16: the table and the record of a word, and the word of a table and a record."""

import unittest

from coverpapers.errors import WrongShape
from coverpapers.moves import allowed_moves, make_move
from coverpapers.pairs import pair_of, table_by_columns, table_of, word_of
from coverpapers.rows import insert_by_rows
from coverpapers.tables import is_record, is_table, reading_word, shape_of
from tests.examples import BIG, LARGE_TABLES, SMALL_TABLES, greatest_cover, long_words, records, small_words
from tests.test_families import may_rise
from tests.test_tables import ALL_SHAPES

WORDS = [*small_words((-1, 0, 1, 2), 5), *long_words()]


def number_at(record, number):
    return [(r, c) for r, row in enumerate(record) for c, other in enumerate(row) if other == number]


class TableOfTest(unittest.TestCase):
    def test_some_tables(self):
        self.assertEqual(table_of([2, 3, 1, 2]), ((1, 2), (2, 3)))
        self.assertEqual(table_of([3, 1, 2, 2]), ((1, 2, 2), (3,)))
        self.assertEqual(table_of([1, 1, 1]), ((1, 1, 1),))
        self.assertEqual(table_of([3, 2, 1]), ((1,), (2,), (3,)))
        self.assertEqual(table_of([0, -1, 0, -1]), ((-1, -1), (0, 0)))
        self.assertEqual(table_of([BIG, -BIG, BIG + 1]), ((-BIG, BIG + 1), (BIG,)))

    def test_the_empty_word(self):
        self.assertEqual(table_of([]), ())
        self.assertEqual(table_by_columns([]), ())
        self.assertEqual(pair_of([]), ((), ()))

    def test_it_is_a_table_of_the_letters(self):
        for word in WORDS:
            table = table_of(word)
            self.assertTrue(is_table(table), word)
            self.assertEqual(sorted(reading_word(table)), sorted(word))

    def test_each_letter_is_inserted_by_rows_into_the_table_of_those_before_it(self):
        for word in WORDS:
            table = ()
            for k, letter in enumerate(word):
                self.assertEqual(table_of(word[:k]), table, word)
                table = insert_by_rows(table, letter)[0]
            self.assertEqual(table_of(word), table, word)

    def test_by_columns_and_in_the_pair_it_is_the_same(self):
        for word in WORDS:
            self.assertEqual(table_by_columns(word), table_of(word), word)
            self.assertEqual(pair_of(word)[0], table_of(word), word)

    def test_a_table_is_the_table_of_its_reading_word(self):
        for table in [*SMALL_TABLES, *LARGE_TABLES]:
            self.assertEqual(table_of(reading_word(table)), table)
            self.assertEqual(table_by_columns(reading_word(table)), table)

    def test_the_shape_tells_the_greatest_covers(self):
        for word in small_words((0, 1, 2), 5):
            shape = shape_of(table_of(word))
            for count in range(len(word) + 1):
                self.assertEqual(sum(shape[:count]), greatest_cover(word, count, may_rise), (word, count))

    def test_all_are_tuples(self):
        for word in ([], [4], [2, 3, 1, 2]):
            pair = pair_of(word)
            for value in (pair, *pair, *pair[0], *pair[1], table_of(word), table_by_columns(word)):
                self.assertIs(type(value), tuple, word)


class RecordTest(unittest.TestCase):
    def test_the_example_of_the_document(self):
        self.assertEqual(pair_of([2, 3, 1, 2]), (((1, 2), (2, 3)), ((1, 2), (3, 4))))

    def test_some_records(self):
        self.assertEqual(pair_of([3, 1, 2, 2])[1], ((1, 3, 4), (2,)))
        self.assertEqual(pair_of([1, 1, 1])[1], ((1, 2, 3),))
        self.assertEqual(pair_of([3, 2, 1])[1], ((1,), (2,), (3,)))
        self.assertEqual(pair_of([0])[1], ((1,),))

    def test_it_is_a_record_of_the_shape_of_the_table(self):
        for word in WORDS:
            table, record = pair_of(word)
            self.assertTrue(is_table(record) and is_record(record), word)
            self.assertEqual(shape_of(record), shape_of(table), word)

    def test_the_new_cell_of_each_insertion_has_its_number(self):
        for word in WORDS:
            record = pair_of(word)[1]
            table = ()
            for number, letter in enumerate(word, start=1):
                table, cell = insert_by_rows(table, letter)
                self.assertEqual(number_at(record, number), [cell], word)


class WordOfTest(unittest.TestCase):
    def test_some_words(self):
        self.assertEqual(word_of(((1, 2), (2, 3)), ((1, 2), (3, 4))), [2, 3, 1, 2])
        self.assertEqual(word_of(((1, 2), (2, 3)), ((1, 3), (2, 4))), [2, 1, 3, 2])
        self.assertEqual(word_of(((0, 0), (5,)), ((1, 3), (2,))), [5, 0, 0])
        self.assertEqual(word_of(((0, 0), (5,)), ((1, 2), (3,))), [0, 5, 0])

    def test_the_empty_pair(self):
        self.assertEqual(word_of((), ()), [])

    def test_it_gives_back_each_word(self):
        for word in WORDS:
            self.assertEqual(word_of(*pair_of(word)), word)

    def test_each_table_and_record_of_one_shape_is_a_pair(self):
        for table in SMALL_TABLES:
            for record in records(shape_of(table)):
                word = word_of(table, record)
                self.assertIs(type(word), list)
                self.assertEqual(pair_of(word), (table, record))

    def test_all_records_of_six_and_seven_numbers(self):
        for shape in ALL_SHAPES:
            if sum(shape) in (6, 7):
                table = tuple((10 * r,) * length for r, length in enumerate(shape))
                for record in records(shape):
                    self.assertEqual(pair_of(word_of(table, record)), (table, record))

    def test_large_tables(self):
        for table in LARGE_TABLES:
            columns = [(c, r) for r, row in enumerate(table) for c in range(len(row))]
            for order in (sorted(columns), sorted(columns, key=lambda cell: cell[1])):
                number = {cell: k for k, cell in enumerate(order, start=1)}
                record = tuple(tuple(number[c, r] for c in range(len(row))) for r, row in enumerate(table))
                self.assertEqual(pair_of(word_of(table, record)), (table, record))

    def test_other_shapes(self):
        tables = [(), ((1,),), ((1, 2),), ((1,), (2,)), ((1, 2), (3,)), ((1, 2, 3),), ((1, 2), (3, 4))]
        for table in tables:
            for record in tables:
                if table == record:
                    self.assertEqual(pair_of(word_of(table, record)), (table, record))
                else:
                    with self.assertRaises(WrongShape, msg=(table, record)):
                        word_of(table, record)

    def test_other_shapes_with_as_many_rows_and_cells(self):
        with self.assertRaises(WrongShape):
            word_of(((0, 0, 0, 0), (1,)), ((1, 2, 3), (4, 5)))
        with self.assertRaises(WrongShape):
            word_of(((0, 0, 0), (1, 1), (2,)), ((1, 2), (3, 4), (5, 6)))


class MovesTest(unittest.TestCase):
    """What a move does to the table and the record."""

    def test_a_move_leaves_the_table_and_exchanges_two_numbers_of_the_record(self):
        for word in WORDS:
            table, record = pair_of(word)
            for index, side in allowed_moves(word):
                after_table, after = pair_of(make_move(word, (index, side)))
                self.assertEqual(after_table, table, (word, index, side))
                pairs = zip(reading_word(record), reading_word(after))
                changed = sorted((old, new) for old, new in pairs if old != new)
                exchanges = [[(k, k + 1), (k + 1, k)] for k in (index + 1, index + 2)]
                self.assertIn(changed, exchanges, (word, index, side))


class ArgumentsTest(unittest.TestCase):
    """Point 3: arguments stay as they are, and what is returned shares nothing with them."""

    def test_the_word_stays_as_it_is(self):
        word = [2, 3, 1, 2]
        table = table_of(word)
        table_by_columns(word)
        pair = pair_of(word)
        self.assertEqual(word, [2, 3, 1, 2])
        word.clear()
        self.assertEqual(table, ((1, 2), (2, 3)))
        self.assertEqual(pair, (((1, 2), (2, 3)), ((1, 2), (3, 4))))

    def test_each_call_returns_a_word_of_its_own(self):
        pair = pair_of([2, 3, 1, 2])
        first = word_of(*pair)
        first.append(9)
        self.assertEqual(word_of(*pair), [2, 3, 1, 2])
        word_of((), ()).append(9)
        self.assertEqual(word_of((), ()), [])


if __name__ == "__main__":
    unittest.main()
