"""Tables, their shapes, corners and reading words."""


def is_table(rows):
    """Tell whether a tuple of tuples of integers is a table."""
    for row in rows:
        if not _is_row(row):
            return False
    return all([_may_stand_below(lower, upper) for upper, lower in zip(rows, rows[1:])])


def is_record(table):
    """Tell whether the table has each of the numbers from 1 to the number of its cells once."""
    letters = reading_word(table)
    return sorted(letters) == list(range(1, len(letters) + 1))


def shape_of(table):
    """Return the tuple of the lengths of the rows."""
    return tuple([len(row) for row in table])


def reading_word(table):
    """Return the letters of the rows from left to right, the bottom row first."""
    return [letter for row in reversed(table) for letter in row]


def corners(table):
    """Return the cells with none to the right and none below, from the top row down."""
    # The row below the bottom one counts as having no cells.
    lengths = [len(row) for row in table] + [0]
    return [(row, lengths[row] - 1) for row in range(len(table)) if lengths[row + 1] < lengths[row]]


def conjugate(shape):
    """Return the tuple of the numbers of cells of the columns of a table with this shape."""
    columns = []
    # From the bottom row up, the columns that a row adds to those below it end in this row.
    for height in range(len(shape), 0, -1):
        while len(columns) < shape[height - 1]:
            columns.append(height)
    return tuple(columns)


def _is_row(row):
    return len(row) > 0 and list(row) == sorted(row)


def _may_stand_below(lower, upper):
    if len(lower) > len(upper):
        return False
    return all([above < below for above, below in zip(upper, lower)])
