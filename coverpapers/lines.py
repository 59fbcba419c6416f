"""Lines of a table, its rows or its columns: what inserting and taking out have in common for both."""


def count_less(line, letter):
    """Return how many letters of the line are less than the letter."""
    return len([other for other in line if other < letter])


def count_not_greater(line, letter):
    """Return how many letters of the line are less than or equal to the letter."""
    return len([other for other in line if other <= letter])


def put_into_line(line, place, letter):
    """Return the line with the letter at the place, and the letter that it pushes out, None at the end of the line."""
    if place == len(line):
        return (line + (letter,), None)
    return (line[:place] + (letter,) + line[place + 1:], line[place])


def insert_into_lines(lines, letter, insert_into_line):
    """Insert the letter into the first line, the letter that is pushed out into the next one, and so on.

    `insert_into_line(line, letter)` returns the line after the insertion, and the letter that is pushed out or None.
    Return the lines, and the pair of the index of the line that has grown and of the new place in it.
    """
    changed = []
    pushed = letter
    while pushed is not None:
        # A letter that leaves the last line forms a line of its own.
        line = lines[len(changed)] if len(changed) < len(lines) else ()
        line, pushed = insert_into_line(line, pushed)
        changed.append(line)
    grown = len(changed) - 1
    return (tuple(changed) + lines[len(changed):], (grown, len(changed[grown]) - 1))


def take_from_lines(lines, last, put_back):
    """Remove the last letter of the line with the index `last`, which ends in a corner, and undo its insertion.

    `put_back(line, letter)` puts a letter back into a line, and returns the line and the letter that it pushes out.
    Return the lines, and the letter that leaves the first one.
    """
    rest = list(lines)
    rest[last] = lines[last][:-1]
    letter = lines[last][-1]
    for index in range(last - 1, -1, -1):
        rest[index], letter = put_back(lines[index], letter)
    # No line stands behind a line that ends in a corner and has one letter, so none moves up.
    return (tuple([line for line in rest if len(line) > 0]), letter)
