"""Carrying families over elementary moves."""

from coverpapers.moves import LEFT, make_move


def carry_rising(word, move, family):
    """Return a family of rising lists of the word after the move, with as many lists and the same cover.

    Raise WrongMove if the move is not allowed.
    """
    return _carry(word, move, family)


def carry_falling(word, move, family):
    """Return a family of falling lists of the word after the move, with as many lists and the same cover.

    Raise WrongMove if the move is not allowed.
    """
    return _carry(word, move, family)


def lead_along(path, letters, family):
    """Return the family of the word to which the path leads, for one of either kind of a word of so many letters.

    The moves of the path are allowed. Whether the lists rise or fall does not matter to how they are led along.
    """
    holders = _holders(letters, family)
    for move in path:
        _lead_over(move, holders)
    return _family(holders, len(family))


def _carry(word, move, family):
    # Made only for its error.
    make_move(word, move)
    return lead_along([move], len(word), family)


def _holders(letters, family):
    """Return the number of the list that has the letter, for each of so many letters, None where no list has it."""
    holders = [None] * letters
    for number, indexes in enumerate(family):
        for index in indexes:
            holders[index] = number
    return holders


def _family(holders, count):
    """Return the so many lists of the letters that they hold."""
    family = [[] for _ in range(count)]
    for index, number in enumerate(holders):
        if number is not None:
            family[number].append(index)
    return family


def _lead_over(move, holders):
    """Change the holders to those of the word after the move."""
    index, side = move
    place, third = (index, index + 2) if side == LEFT else (index + 1, index)
    if holders[place] is None or holders[place] != holders[place + 1]:
        holders[place], holders[place + 1] = holders[place + 1], holders[place]
        return
    # The letters fit into one list only in the order that they lose now. The third neighbor lies between them, and can
    # take the place of the one that the move leads away from it. If another list has the third neighbor, it gets that
    # letter for it, and the two lists exchange all that they have on the side of the third neighbor.
    if holders[third] is not None:
        start, end = (index + 3, len(holders)) if side == LEFT else (0, index)
        _exchange(holders, start, end, (holders[place], holders[third]))
    holders[index], holders[index + 2] = holders[index + 2], holders[index]


def _exchange(holders, start, end, lists):
    """Exchange the two lists as holders from the start up to the end."""
    one, other = lists
    for index in range(start, end):
        if holders[index] == one:
            holders[index] = other
        elif holders[index] == other:
            holders[index] = one
