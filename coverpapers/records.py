"""Records of words whose letters come and go at both ends."""

from coverpapers.tables import shape_of


def with_last(record, cell):
    """Return the record of the word with a letter behind it, given the cell by which its table grows."""
    return _with_number(record, cell, sum(shape_of(record)) + 1)


def without_last(record):
    """Return the record of the word without its last letter, and the corner that its table loses."""
    last = sum(shape_of(record))
    row = [numbers[-1] for numbers in record].index(last)
    rows = [numbers[:-1] if numbers[-1] == last else numbers for numbers in record]
    return (_without_empty_rows(rows), (row, len(record[row]) - 1))


def with_first(record, cell):
    """Return the record of the word with a letter in front of it, given the cell by which its table grows.

    Each number grows by 1, since its letter moves on by one place. The new cell, still empty, is led to the top left
    cell, where the number 1 belongs: at each step the greater one of the numbers to its left and above it goes into it.
    """
    rows = [[number + 1 for number in numbers] for numbers in _with_number(record, cell, 0)]
    empty = cell
    while empty != (0, 0):
        before = _greater_before(rows, empty)
        _move_number(rows, before, empty)
        empty = before
    rows[0][0] = 1
    return tuple([tuple(numbers) for numbers in rows])


def without_first(record):
    """Return the record of the word without its first letter, and the corner that its table loses.

    This undoes `with_first`: the top left cell is empty now, and is led to a corner.
    """
    rows = [[number - 1 for number in numbers] for numbers in record]
    empty = (0, 0)
    behind = _less_behind(rows, empty)
    while behind is not None:
        _move_number(rows, behind, empty)
        empty = behind
        behind = _less_behind(rows, empty)
    row, _ = empty
    rows[row].pop()
    return (_without_empty_rows(rows), empty)


def _with_number(record, cell, number):
    """Return the record with the number in the cell, which is new and stands at the end of its row."""
    row, _ = cell
    numbers = record[row] if row < len(record) else ()
    return record[:row] + (numbers + (number,),) + record[row + 1:]


def _greater_before(rows, cell):
    """Return the cell to the left of the cell or the one above it, whichever has the greater number."""
    row, column = cell
    if row > 0 and (column == 0 or rows[row - 1][column] > rows[row][column - 1]):
        return (row - 1, column)
    return (row, column - 1)


def _less_behind(rows, cell):
    """Return the cell to the right of the cell or the one below it, whichever has the less number, None at a corner."""
    row, column = cell
    has_right = column + 1 < len(rows[row])
    has_below = row + 1 < len(rows) and column < len(rows[row + 1])
    if has_below and (not has_right or rows[row + 1][column] < rows[row][column + 1]):
        return (row + 1, column)
    return (row, column + 1) if has_right else None


def _move_number(rows, start, end):
    row, column = end
    rows[row][column] = rows[start[0]][start[1]]


def _without_empty_rows(rows):
    return tuple([tuple(numbers) for numbers in rows if len(numbers) > 0])
