"""Turning words, and families with them, between two bounds."""

from coverpapers.errors import OutOfRange


def turn(word, *, least, greatest):
    """Return the word reversed, with each letter as far from the one bound as it was from the other one.

    Raise OutOfRange if a letter is not from `least` to `greatest`.
    """
    for letter in word:
        if letter < least or letter > greatest:
            raise OutOfRange("a letter is not between the bounds")
    return [least + greatest - letter for letter in reversed(word)]


def turn_family(word, family):
    """Return the family of the turned word whose lists have the same letters, turned, as those of the family."""
    last = len(word) - 1
    return [[last - index for index in reversed(indexes)] for indexes in family]
