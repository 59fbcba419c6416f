"""The operators of a number: they change unmatched letters of a word by 1."""


def lowered(word, number):
    """Return the word with its last unmatched `number` changed to the next number, None if there is none."""
    lower, _ = _unmatched(word, number)
    if len(lower) == 0:
        return None
    return _with_letters(word, lower[-1:], [number + 1])


def raised(word, number):
    """Return the word with its first unmatched letter next to `number` changed to it, None if there is none."""
    _, upper = _unmatched(word, number)
    if len(upper) == 0:
        return None
    return _with_letters(word, upper[:1], [number])


def exchanged(word, number):
    """Return the word with as many unmatched letters `number` as it has unmatched ones of the next number, and back."""
    lower, upper = _unmatched(word, number)
    return _with_letters(word, lower + upper, [number] * len(upper) + [number + 1] * len(lower))


def _unmatched(word, number):
    """Return the indexes of the unmatched letters `number`, and those of the unmatched letters of the next number."""
    lower = []
    upper = []
    for index, letter in enumerate(word):
        if letter == number + 1:
            upper.append(index)
        elif letter == number and len(upper) > 0:
            # The letter that came last is the nearest one to the left.
            upper.pop()
        elif letter == number:
            lower.append(index)
    return (lower, upper)


def _with_letters(word, indexes, letters):
    """Return the word with the letters at the indexes."""
    changed = list(word)
    for index, letter in zip(indexes, letters):
        changed[index] = letter
    return changed
