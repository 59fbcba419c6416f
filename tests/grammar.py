"""The texts of words, families and papers as languages, and the first character of a text that none can have there.

A language is told by what may come: NOTHING, the END of a text, one of some characters, one language `then` another
one, `either` of two, or one `repeated`. What is left of it behind a character is a language again; a character is
invalid where NOTHING is left. The program reads texts in another way.
"""

from functools import cache


class Language:
    def __init__(self, kind, *parts):
        self.kind = kind
        self.parts = parts


@cache
def language(kind, *parts):
    """Make each language once, so that what comes behind a character can be kept for it."""
    return Language(kind, *parts)


NOTHING = language("nothing")
END = language("end")


def one_of(characters):
    return language("one of", characters)


def then(first, second):
    if NOTHING in (first, second):
        return NOTHING
    return second if first == END else language("then", first, second)


def either(first, second):
    if first == NOTHING:
        return second
    return first if second == NOTHING else language("either", first, second)


def repeated(part):
    return language("repeated", part)


def literal(text):
    told = END
    for character in reversed(text):
        told = then(one_of(character), told)
    return told


def may_end(told):
    if told.kind == "then":
        return may_end(told.parts[0]) and may_end(told.parts[1])
    if told.kind == "either":
        return may_end(told.parts[0]) or may_end(told.parts[1])
    return told.kind in ("end", "repeated")


@cache
def behind(told, character):
    """Tell what may come behind the character."""
    if told.kind == "one of":
        return END if character in told.parts[0] else NOTHING
    if told.kind == "then":
        first = then(behind(told.parts[0], character), told.parts[1])
        return either(first, behind(told.parts[1], character)) if may_end(told.parts[0]) else first
    if told.kind == "either":
        return either(behind(told.parts[0], character), behind(told.parts[1], character))
    if told.kind == "repeated":
        return then(behind(told.parts[0], character), told)
    return NOTHING


def first_invalid(told, text):
    """Find the place of the first invalid character, the length of a text that ends too early, None if it is valid."""
    for place, character in enumerate(text):
        told = behind(told, character)
        if told == NOTHING:
            return place
    return None if may_end(told) else len(text)


def at_most(count, part):
    told = END
    for _ in range(count):
        told = either(END, then(part, told))
    return told


def separated(part, text):
    return then(part, repeated(then(literal(text), part)))


POSITIVE = then(one_of("123456789"), at_most(59, one_of("0123456789")))
INDEX = either(literal("0"), POSITIVE)
LETTER = either(INDEX, then(literal("-"), POSITIVE))
WORD = either(END, separated(LETTER, " "))
FAMILY = either(END, separated(either(literal("-"), separated(INDEX, " ")), " / "))
PAPER = then(literal("rising "), then(FAMILY, then(literal("; falling "), FAMILY)))
