"""Windows: words whose letters come and go at both ends."""

from coverpapers.columns import insert_by_columns, take_by_columns
from coverpapers.covers import falling_paper, greatest_cover, rising_paper
from coverpapers.errors import EmptyWindow
from coverpapers.pairs import pair_of
from coverpapers.records import with_first, with_last, without_first, without_last
from coverpapers.rows import insert_by_rows, take_by_rows
from coverpapers.tables import conjugate, shape_of


class Window:
    """A word with its table and its record, which letters join and leave at the right and at the left end."""

    def __init__(self, letters=()):
        self._letters = list(letters)
        self._rows, self._numbers = pair_of(self._letters)

    def push_right(self, letter):
        """Push the letter at the right end. Return the cell by which the table grows."""
        self._rows, cell = insert_by_rows(self._rows, letter)
        self._numbers = with_last(self._numbers, cell)
        self._letters.append(letter)
        return cell

    def push_left(self, letter):
        """Push the letter at the left end. Return the cell by which the table grows."""
        self._rows, cell = insert_by_columns(self._rows, letter)
        self._numbers = with_first(self._numbers, cell)
        self._letters.insert(0, letter)
        return cell

    def pop_right(self):
        """Pop the letter at the right end and return it. Raise EmptyWindow if there is none."""
        self._check_not_empty()
        self._numbers, cell = without_last(self._numbers)
        self._rows, _ = take_by_rows(self._rows, cell)
        return self._letters.pop()

    def pop_left(self):
        """Pop the letter at the left end and return it. Raise EmptyWindow if there is none."""
        self._check_not_empty()
        self._numbers, cell = without_first(self._numbers)
        self._rows, _ = take_by_columns(self._rows, cell)
        return self._letters.pop(0)

    def word(self):
        """Return the word, a list of its own."""
        return list(self._letters)

    def table(self):
        """Return the table of the word."""
        return self._rows

    def record(self):
        """Return the record of the word."""
        return self._numbers

    def rises(self):
        """Return the rises of the word."""
        return shape_of(self._rows)

    def __len__(self):
        return len(self._letters)

    def __iter__(self):
        return iter(self._letters)

    def greatest(self, count, *, falling=False):
        """Return the greatest cover of so many rising lists, or falling lists if `falling` is True.

        Raise OutOfRange if the number is less than 0.
        """
        shape = shape_of(self._rows)
        return greatest_cover(conjugate(shape) if falling else shape, count)

    def paper(self, count, *, falling=False):
        """Return a paper with so many rising lists, or falling lists if `falling` is True.

        Raise OutOfRange if the number is less than 0.
        """
        return falling_paper(self._letters, count) if falling else rising_paper(self._letters, count)

    def _check_not_empty(self):
        if len(self._letters) == 0:
            raise EmptyWindow("the window has no letter to pop")
