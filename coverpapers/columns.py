"""Inserting letters into a table by columns, and taking corners out by columns."""

from coverpapers.errors import NoCorner
from coverpapers.lines import count_less, count_not_greater, insert_into_lines, put_into_line, take_from_lines
from coverpapers.tables import corners


def insert_by_columns(table, letter):
    """Return the table after the insertion by columns, and the new cell."""
    columns, (column, row) = insert_into_lines(_transposed(table), letter, _insert_into_column)
    return (_transposed(columns), (row, column))


def take_by_columns(table, cell):
    """Return the table without the corner, and the letter that is taken out. Raise NoCorner for another cell."""
    if cell not in corners(table):
        raise NoCorner("the cell is not a corner of the table")
    columns, letter = take_from_lines(_transposed(table), cell[1], _put_back_into_column)
    return (_transposed(columns), letter)


def _insert_into_column(column, letter):
    return put_into_line(column, count_less(column, letter), letter)


def _put_back_into_column(column, letter):
    # The column beside a corner always has a letter that is not greater: the one to the left of where it comes from.
    return put_into_line(column, count_not_greater(column, letter) - 1, letter)


def _transposed(lines):
    """Return the columns of a tuple of rows, or the rows of a tuple of columns, whose lengths do not increase."""
    width = len(lines[0]) if len(lines) > 0 else 0
    return tuple([tuple([line[place] for line in lines if place < len(line)]) for place in range(width)])
