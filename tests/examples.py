"""Words, tables and records that several tests go through, and what they check for rows and columns alike."""

from itertools import product
from random import Random

from coverpapers.errors import NoCorner
from coverpapers.tables import corners, is_table, shape_of
from tests.test_tables import ALL_SHAPES, rows_of

BIG = 10 ** 40

# Each table of at most five cells with the letters -1, 0, 1 and 2.
SMALL_TABLES = [
    rows_of(shape, letters)
    for shape in ALL_SHAPES
    if sum(shape) <= 5
    for letters in product((-1, 0, 1, 2), repeat=sum(shape))
    if is_table(rows_of(shape, letters))
]

# Tables that are larger than the small ones, with equal letters, letters below 0 and large ones.
LARGE_TABLES = [
    ((1, 1, 1, 1, 1, 1, 1),),
    tuple((letter,) for letter in range(-3, 5)),
    ((1, 1, 2, 2, 3), (2, 2, 3, 3), (3, 4, 4), (5,)),
    ((-BIG, -BIG, 0, BIG), (-5, 0, 1, BIG + 1), (0, BIG)),
    ((0, 0, 0), (1, 1, 1), (2, 2, 2)),
]


def records(shape):
    """Make each record of the shape."""
    if shape == ():
        yield ()
        return
    number = sum(shape)
    for row, length in enumerate(shape):
        if row + 1 == len(shape) or shape[row + 1] < length:
            smaller = [*shape[:row], length - 1, *shape[row + 1:]]
            for record in records(tuple(size for size in smaller if size > 0)):
                rows = [list(numbers) for numbers in record] + [[]]
                rows[row].append(number)
                yield tuple(tuple(numbers) for numbers in rows if numbers)


def small_words(letters, longest):
    """Make each word of at most so many of the letters."""
    for n in range(longest + 1):
        for word in product(letters, repeat=n):
            yield list(word)


def long_words():
    """Make words of up to 40 letters, with few different letters and with many."""
    source = Random(5)
    for n in (7, 12, 25, 39, 40):
        for last in (1, 3, 10, 100, BIG):
            yield [source.randint(-last, last) for _ in range(n)]
        yield list(range(n))
        yield list(range(n, 0, -1))
        yield [0] * n
        yield [k // 2 if k % 2 == 0 else n - k for k in range(n)]


def different_words(source):
    """Make words of 5 to 12 letters, from few different letters to many."""
    for n in range(5, 13):
        for last in (1, 2, 4, 30, BIG):
            yield [source.randint(-last, last) for _ in range(n)]


def greatest_cover(word, count, fits):
    """Find the greatest cover of so many lists by trying all families; those with the same last letters go on alike."""
    covers = {(): 0}
    for letter in word:
        for lasts, cover in list(covers.items()):
            longer = [(*lasts[:k], letter, *lasts[k + 1:]) for k, last in enumerate(lasts) if fits(last, letter)]
            begun = [(*lasts, letter)] if len(lasts) < count else []
            for after in map(sorted, longer + begun):
                covers[tuple(after)] = max(cover + 1, covers.get(tuple(after), 0))
    return max(covers.values())


def growths(word, fits):
    """Find the numbers by which the greatest cover grows with each further list."""
    covers = [greatest_cover(word, count, fits) for count in range(len(word) + 1)]
    return tuple(more - less for less, more in zip(covers, covers[1:]) if more > less)


def lists_in(*values):
    """Find each list that stands anywhere in the values."""
    found = [value for value in values if isinstance(value, list)]
    for value in values:
        if isinstance(value, (list, tuple)):
            found.extend(lists_in(*value))
    return found


def has_its_own_lists(value, *others):
    """Tell whether no list stands in the value twice, and none of it in one of the others."""
    own = [id(part) for part in lists_in(value)]
    return len(set(own)) == len(own) and not set(own) & {id(part) for part in lists_in(*others)}


def cells_of(table):
    return {(r, c): letter for r, row in enumerate(table) for c, letter in enumerate(row)}


def rows_of_cells(cells):
    """Make the rows whose letters stand in the cells."""
    rows = []
    for (r, _), letter in sorted(cells.items()):
        rows.extend([] for _ in range(len(rows), r + 1))
        rows[r].append(letter)
    return tuple(tuple(row) for row in rows)


class InsertionChecks:
    """Checks of an insertion and its undoing, for a TestCase with `insert`, `take` and `insert_as_told`."""

    def test_all_small_tables(self):
        for table in SMALL_TABLES:
            for letter in range(-2, 4):
                self.assertEqual(self.insert(table, letter), self.insert_as_told(table, letter), (table, letter))

    def test_the_table_grows_by_one_corner(self):
        for table in [*SMALL_TABLES, *LARGE_TABLES]:
            for letter in (-2, 0, 1, 3, BIG):
                after, cell = self.insert(table, letter)
                self.assertTrue(is_table(after), (table, letter))
                self.assertIn(cell, corners(after))
                self.assertEqual(set(cells_of(after)) - set(cells_of(table)), {cell})
                self.assertEqual(sum(shape_of(after)), sum(shape_of(table)) + 1)

    def test_all_are_tuples(self):
        for table in ((), ((1, 2, 2), (3,))):
            returned = self.insert(table, 1)
            self.assertIs(type(returned), tuple)
            after, cell = returned
            self.assertEqual({type(value) for value in (after, cell, *after)}, {tuple})

    def test_taking_out_undoes_each_insertion(self):
        for table in [*SMALL_TABLES, *LARGE_TABLES]:
            for letter in (-2, -1, 0, 1, 2, 3, BIG, -BIG):
                after, cell = self.insert(table, letter)
                self.assertEqual(self.take(after, cell), (table, letter), (table, letter))

    def test_inserting_undoes_each_taking_out(self):
        for table in [*SMALL_TABLES, *LARGE_TABLES]:
            for cell in corners(table):
                rest, letter = self.take(table, cell)
                self.assertTrue(is_table(rest), (table, cell))
                self.assertEqual(self.insert(rest, letter), (table, cell), (table, cell))

    def test_the_last_cell(self):
        for letter in (0, 7, -BIG):
            self.assertEqual(self.take(((letter,),), (0, 0)), ((), letter))

    def test_what_taking_out_returns_are_tuples(self):
        table = ((1, 1, 2), (2,), (3,))
        for cell in corners(table):
            returned = self.take(table, cell)
            self.assertIs(type(returned), tuple)
            self.assertEqual({type(value) for value in (returned[0], *returned[0])}, {tuple})

    def test_the_table_handed_in_stays_as_it_is(self):
        table = ((1, 2, 2), (3,))
        self.insert(table, 1)
        self.take(table, (1, 0))
        with self.assertRaises(NoCorner):
            self.take(table, (0, 0))
        self.assertEqual(table, ((1, 2, 2), (3,)))

    def test_cells_that_are_no_corners(self):
        table = ((1, 1, 2), (2, 3, 3), (4,))
        inside = [(0, 0), (0, 1), (0, 2), (1, 0), (1, 1)]
        beside = [(0, 3), (1, 3), (2, 1), (2, 2)]
        below = [(3, 0), (2, 2), (3, 1)]
        far_off = [(0, 9), (9, 0), (9, 9), (BIG, BIG), (0, BIG), (10 ** 5000, 0)]
        below_0 = [(-1, 0), (-1, -1), (1, -1), (2, -1), (-2, 2), (-3, -1), (-2, -1), (1, -BIG), (-BIG, 0)]
        for cell in (*inside, *beside, *below, *far_off, *below_0):
            with self.assertRaises(NoCorner, msg=cell):
                self.take(table, cell)

    def test_every_cell_near_a_small_table(self):
        for table in SMALL_TABLES:
            for cell in product(range(-6, 7), repeat=2):
                if cell not in corners(table):
                    with self.assertRaises(NoCorner, msg=(table, cell)):
                        self.take(table, cell)

    def test_the_empty_table_has_no_corner(self):
        for cell in ((0, 0), (0, -1), (-1, 0), (-1, -1), (1, 1)):
            with self.assertRaises(NoCorner, msg=cell):
                self.take((), cell)
