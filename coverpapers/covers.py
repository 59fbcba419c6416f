"""Greatest covers of a word, and papers that show that more cannot be covered."""

from coverpapers.carrying import lead_along
from coverpapers.errors import OutOfRange
from coverpapers.pairs import table_of
from coverpapers.paths import path_to_table
from coverpapers.tables import conjugate, shape_of


def rises(word):
    """Return the numbers by which the greatest cover grows with each further rising list."""
    return shape_of(table_of(word))


def falls(word):
    """Return the numbers by which the greatest cover grows with each further falling list."""
    return conjugate(rises(word))


def greatest_rising(word, count):
    """Return the greatest cover of so many rising lists. Raise OutOfRange if the number is less than 0."""
    return greatest_cover(rises(word), count)


def greatest_falling(word, count):
    """Return the greatest cover of so many falling lists. Raise OutOfRange if the number is less than 0."""
    return greatest_cover(falls(word), count)


def greatest_cover(growths, count):
    """Return the greatest cover of so many lists, given by how much it grows with each of them.

    Raise OutOfRange if the number is less than 0.
    """
    _check_count(count)
    return sum(growths[:count])


def rising_paper(word, count):
    """Return a paper with so many rising lists. Raise OutOfRange if the number is less than 0."""
    _check_count(count)
    return _paper(word, count, _growth_behind(rises(word), count))


def falling_paper(word, count):
    """Return a paper with so many falling lists. Raise OutOfRange if the number is less than 0."""
    _check_count(count)
    return _paper(word, _growth_behind(falls(word), count), count)


def longest_rising(word):
    """Return a longest rising list of the word."""
    return rising_paper(word, 1)[0][0]


def longest_falling(word):
    """Return a longest falling list of the word."""
    return falling_paper(word, 1)[1][0]


def part_rising(word):
    """Return a family of the fewest rising lists that covers all letters, and a longest falling list."""
    return (rising_paper(word, len(rises(word)))[0], longest_falling(word))


def part_falling(word):
    """Return a family of the fewest falling lists that covers all letters, and a longest rising list."""
    return (falling_paper(word, len(falls(word)))[1], longest_rising(word))


def _check_count(count):
    if count < 0:
        raise OutOfRange("the number of lists is less than 0")


def _growth_behind(growths, count):
    """Return by how much the greatest cover grows with one list more than so many."""
    return growths[count] if count < len(growths) else 0


def _paper(word, rows, columns):
    """Return the paper of the first so many rows and the first so many columns of the table.

    In the reading word the rows rise, and the columns fall from the bottom up. If together they cover the table, and
    each of the rows meets each of the columns, they are a paper there, which the path leads back to the word.
    """
    # Each move undoes itself, so the path back has the same moves from the last to the first.
    path = path_to_table(word)[::-1]
    lines = _rows_in_reading_word(rises(word))
    rising = lead_along(path, len(word), _first_lists(lines, rows))
    falling = lead_along(path, len(word), _first_lists(_columns_in_reading_word(lines), columns))
    return (rising, falling)


def _rows_in_reading_word(shape):
    """Return the lists of the indexes that the rows of the table have in its reading word, the top row first."""
    rows = []
    end = sum(shape)
    for length in shape:
        rows.append(list(range(end - length, end)))
        end = end - length
    return rows


def _columns_in_reading_word(rows):
    """Return the lists of the indexes of the columns, given those of the rows."""
    width = len(rows[0]) if len(rows) > 0 else 0
    return [[row[place] for row in reversed(rows) if place < len(row)] for place in range(width)]


def _first_lists(lists, count):
    """Return the first so many of the lists, with empty ones behind them if they are too few."""
    return lists[:count] + [[] for _ in range(count - len(lists))]
