"""The table and the record of a word, and the word of a table and a record."""

from coverpapers.columns import insert_by_columns
from coverpapers.errors import WrongShape
from coverpapers.rows import insert_by_rows, take_by_rows
from coverpapers.tables import shape_of


def table_of(word):
    """Return the table of the word, made by rows from the first letter to the last."""
    table = ()
    for letter in word:
        table, _ = insert_by_rows(table, letter)
    return table


def table_by_columns(word):
    """Return the same table, made by columns from the last letter to the first."""
    table = ()
    for letter in reversed(word):
        table, _ = insert_by_columns(table, letter)
    return table


def pair_of(word):
    """Return the table and the record of the word."""
    table = ()
    record = []
    for number, letter in enumerate(word, start=1):
        table, (row, _) = insert_by_rows(table, letter)
        if row == len(record):
            record.append([])
        # The new cell is the end of its row, so the numbers come in their order.
        record[row].append(number)
    return (table, tuple([tuple(row) for row in record]))


def word_of(table, record):
    """Return the word with this table and this record. Raise WrongShape if their shapes differ."""
    if shape_of(table) != shape_of(record):
        raise WrongShape("the table and the record have different shapes")
    cells = _cells_by_number(record)
    rest = table
    letters = []
    for number in range(len(cells), 0, -1):
        rest, letter = take_by_rows(rest, cells[number])
        letters.append(letter)
    return letters[::-1]


def _cells_by_number(record):
    return {number: (row, column) for row, numbers in enumerate(record) for column, number in enumerate(numbers)}
