"""Families of rising and falling lists, and the judge of papers."""


def is_rising_family(word, family):
    """Tell whether the lists are rising lists of the word in which no index comes twice."""
    if not _has_each_index_once(word, family):
        return False
    return all([_does_not_decrease([word[index] for index in indexes]) for indexes in family])


def is_falling_family(word, family):
    """Tell whether the lists are falling lists of the word in which no index comes twice."""
    if not _has_each_index_once(word, family):
        return False
    return all([_strictly_decreases([word[index] for index in indexes]) for indexes in family])


def cover(family):
    """Return the number of all indexes in the lists, whether they are a family of a word or not."""
    return sum([len(indexes) for indexes in family])


def judge(word, rising, falling):
    """Tell whether the two lists of lists are a paper of the word."""
    if not is_rising_family(word, rising) or not is_falling_family(word, falling):
        return False
    return cover(rising) + cover(falling) == len(word) + len(rising) * len(falling)


def _has_each_index_once(word, family):
    """Tell whether the lists are ascending lists of indexes of the word that share none."""
    taken = [False] * len(word)
    for indexes in family:
        # Starting below 0 refuses negative indexes, which Python would count from the end of the word.
        before = -1
        for index in indexes:
            if index <= before or index >= len(word) or taken[index]:
                return False
            taken[index] = True
            before = index
    return True


def _does_not_decrease(letters):
    return all([left <= right for left, right in zip(letters, letters[1:])])


def _strictly_decreases(letters):
    return all([left > right for left, right in zip(letters, letters[1:])])
