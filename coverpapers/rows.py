"""Inserting letters into a table by rows, and taking corners out by rows."""

from coverpapers.errors import NoCorner
from coverpapers.lines import count_less, count_not_greater, insert_into_lines, put_into_line, take_from_lines
from coverpapers.tables import corners


def insert_into_row(row, letter):
    """Return the row after the insertion, and the letter that is pushed out, None if there is none."""
    return put_into_line(row, count_not_greater(row, letter), letter)


def insert_by_rows(table, letter):
    """Return the table after the insertion by rows, and the new cell."""
    return insert_into_lines(table, letter, insert_into_row)


def take_by_rows(table, cell):
    """Return the table without the corner, and the letter that is taken out. Raise NoCorner for another cell."""
    if cell not in corners(table):
        raise NoCorner("the cell is not a corner of the table")
    return take_from_lines(table, cell[0], _put_back_into_row)


def _put_back_into_row(row, letter):
    # The row above a corner always has a letter that is less: the one above the cell that the letter comes from.
    return put_into_line(row, count_less(row, letter) - 1, letter)
