"""Elementary moves: exchanges of two neighbors that a third one beside them allows."""

from coverpapers.errors import WrongMove

LEFT = "left"
RIGHT = "right"


def allowed_moves(word):
    """Return the allowed moves in ascending order of the index, the left move before the right one."""
    return [
        (index, side)
        for index in range(len(word) - 2)
        for side in (LEFT, RIGHT)
        if _is_allowed(word, index, side)
    ]


def make_move(word, move):
    """Return the word after the move. Raise WrongMove if it is not allowed."""
    index, side = move
    if not _is_allowed(word, index, side):
        # The message leaves the index out: Python refuses to write out an integer of thousands of digits.
        raise WrongMove("the move is not allowed on this word")
    place = index if side == LEFT else index + 1
    after = list(word)
    after[place], after[place + 1] = word[place + 1], word[place]
    return after


def _is_allowed(word, index, side):
    if index < 0 or index + 3 > len(word):
        return False
    a, b, c = word[index:index + 3]
    if side == LEFT:
        return min(a, b) <= c < max(a, b)
    if side == RIGHT:
        return min(b, c) < a <= max(b, c)
    return False
