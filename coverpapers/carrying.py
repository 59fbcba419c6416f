"""Carrying families over elementary moves."""

from coverpapers.moves import RIGHT, first_exchanged, make_move


def carry_rising(word, move, family):
    """Return a family of rising lists of the word after the move, with as many lists and the same cover.

    Raise WrongMove if the move is not allowed.
    """
    return _carry(word, move, family)


def carry_falling(word, move, family):
    """Return a family of falling lists of the word after the move, with as many lists and the same cover.

    Raise WrongMove if the move is not allowed.
    """
    return _carry(word, move, family)


def lead_over(move, family):
    """Return the family of the word after the move, for an allowed move and a family of either kind."""
    index, side = move
    place = first_exchanged(move)
    holder = _list_with(family, place)
    if holder is None or place + 1 not in family[holder]:
        return [[_after_exchange(at, place) for at in indexes] for indexes in family]
    # The two letters fit into one list only in the order that they lose. The third neighbor lies between them, so it
    # takes the place of one of them; if another list has it, the two lists go on with one another's ends.
    other = _list_with(family, index if side == RIGHT else index + 2)
    after = [list(indexes) for indexes in family]
    if other is None:
        after[holder] = _with_third(move, family[holder])
    else:
        after[holder], after[other] = _with_ends_exchanged(move, family[holder], family[other])
    return after


def _carry(word, move, family):
    # Made only for its error: whether letters rise or fall does not matter to how their indexes are led over.
    make_move(word, move)
    return lead_over(move, family)


def _list_with(family, index):
    """Return the place of the list that has the index in it, None if no list has it."""
    for place, indexes in enumerate(family):
        if index in indexes:
            return place
    return None


def _after_exchange(index, place):
    """Return the index at which a letter stands after the exchange of the letters at `place` and behind it."""
    if index == place:
        return place + 1
    if index == place + 1:
        return place
    return index


def _with_third(move, holder):
    """Return the list with the third neighbor in the place of the exchanged one that does not fit beside it."""
    index, side = move
    head, tail = _around(holder, index)
    return head + ([index, index + 1] if side == RIGHT else [index + 1, index + 2]) + tail


def _with_ends_exchanged(move, holder, other):
    """Return the two lists, each with the end of the other one, so that the other one takes one of the letters."""
    index, side = move
    head, tail = _around(holder, index)
    other_head, other_tail = _around(other, index)
    if side == RIGHT:
        return (head + [index + 2] + other_tail, other_head + [index, index + 1] + tail)
    return (head + [index + 1, index + 2] + other_tail, other_head + [index] + tail)


def _around(indexes, index):
    """Return the indexes before the three neighbors from the index on, and those behind them."""
    return ([at for at in indexes if at < index], [at for at in indexes if at > index + 2])
