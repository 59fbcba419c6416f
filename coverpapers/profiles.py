"""Profiles: the rises of the letters of a word up to each bound."""

from coverpapers.covers import rises


def profile(word):
    """Return the pairs of each letter of the word, as the bound, and the rises of the letters not greater than it."""
    return [(bound, rises(letters_up_to(word, bound))) for bound in sorted(set(word))]


def letters_up_to(word, bound):
    """Return the word of the letters that are not greater than the bound."""
    return [letter for letter in word if letter <= bound]
