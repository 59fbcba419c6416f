"""Notes: what parts two words that are not related, and the judge of it."""

from coverpapers.covers import rising_paper
from coverpapers.errors import Related
from coverpapers.families import cover, is_rising_family, judge
from coverpapers.profiles import letters_up_to, profile


def note(first, second):
    """Return a note that parts the words. Raise Related if they are related."""
    if _contents_differ(first, second):
        return ("content",)
    for (bound, growths), (_, others) in zip(profile(first), profile(second)):
        if growths != others:
            # Of two tuples, the one with the greater number where they first differ is the greater one.
            return _cover_note(first, second, bound, _fewest_lists(growths, others), growths < others)
    raise Related("a path joins the words, so no note parts them")


def judge_note(first, second, note):
    """Tell whether the note parts the words."""
    if note == ("content",):
        return _contents_differ(first, second)
    _, bound, family, (rising, falling), swapped = note
    greater, lesser = _ordered(first, second, bound, swapped)
    if not is_rising_family(greater, family) or not judge(lesser, rising, falling):
        return False
    return len(family) == len(rising) and cover(family) > cover(rising)


def _contents_differ(first, second):
    return sorted(first) != sorted(second)


def _fewest_lists(growths, others):
    """Return the least number of lists whose greatest covers differ, given different growths of one sum."""
    count = 1
    while growths[count - 1] == others[count - 1]:
        count = count + 1
    return count


def _cover_note(first, second, bound, count, swapped):
    greater, lesser = _ordered(first, second, bound, swapped)
    family, _ = rising_paper(greater, count)
    return ("cover", bound, family, rising_paper(lesser, count), swapped)


def _ordered(first, second, bound, swapped):
    """Return the words of the letters up to the bound, in their order or in the other one."""
    one, other = (second, first) if swapped else (first, second)
    return (letters_up_to(one, bound), letters_up_to(other, bound))
