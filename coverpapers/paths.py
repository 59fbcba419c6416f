"""Paths: lists of moves that lead from one word to another."""

from coverpapers.errors import NotRelated
from coverpapers.lines import count_not_greater
from coverpapers.moves import LEFT, RIGHT, make_move
from coverpapers.pairs import table_of
from coverpapers.rows import insert_by_rows
from coverpapers.tables import reading_word, shape_of


def walk(word, path):
    """Return the word after all moves of the path. Raise WrongMove if one is not allowed where it is made."""
    after = list(word)
    for move in path:
        after = make_move(after, move)
    return after


def path_to_table(word):
    """Return a path from the word to the reading word of its table, with at most n * n moves for n letters."""
    # Inserting the letters of a reading word would push them down and lead back to the same word.
    if reading_word(table_of(word)) == word:
        return []
    path = []
    table = ()
    for letter in word:
        path.extend(_moves_of_insertion(table, letter))
        table, _ = insert_by_rows(table, letter)
    return path


def path_between(first, second):
    """Return a path between the words, with at most 2 * n * n moves. Raise NotRelated if there is none."""
    if table_of(first) != table_of(second):
        raise NotRelated("the words have different tables")
    # Each move undoes itself, so a path that is walked from its end leads back.
    return path_to_table(first) + path_to_table(second)[::-1]


def _moves_of_insertion(table, letter):
    """Return a path from the table's reading word and the letter behind it to the reading word after the insertion."""
    moves = []
    inserted = letter
    start = sum(shape_of(table))
    for row in table:
        place = count_not_greater(row, inserted)
        if place == len(row):
            # The letter stands at the end of this row already.
            break
        start = start - len(row)
        moves.extend(_moves_through_row(start, len(row), place))
        inserted = row[place]
    return moves


def _moves_through_row(start, length, place):
    """Return the moves that push the letter at the place out to the front of the row, which starts at `start`.

    The letter that pushes stands behind the row. By right moves it passes the letters to the right of the place;
    then the letter at the place passes those to the left of it by left moves.
    """
    return [(start + at, RIGHT if at >= place else LEFT) for at in range(length - 2, -1, -1)]
