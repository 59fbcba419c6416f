"""Words, families and papers as texts."""

from coverpapers.reading import Reader

EMPTY_LIST = "-"
BETWEEN_LISTS = " / "
BEFORE_RISING = "rising "
BEFORE_FALLING = "; falling "


def format_word(word):
    """Return the written form of the word, which is empty for the empty word."""
    return " ".join([str(letter) for letter in word])


def format_family(family):
    """Return the written form of the family, which is empty for a family without lists."""
    return BETWEEN_LISTS.join([format_word(indexes) if len(indexes) > 0 else EMPTY_LIST for indexes in family])


def format_paper(paper):
    """Return the written form of the paper."""
    rising, falling = paper
    return BEFORE_RISING + format_family(rising) + BEFORE_FALLING + format_family(falling)


def parse_word(text):
    """Return the word that the text writes. Raise InvalidText if it writes none."""
    if text == "":
        return []
    reader = Reader(text)
    word = [reader.read_letter()]
    while reader.sees(" "):
        reader.pass_over(" ")
        word.append(reader.read_letter())
    reader.finish()
    return word


def parse_family(text):
    """Return the family that the text writes. Raise InvalidText if it writes none."""
    reader = Reader(text)
    family = _read_family(reader)
    reader.finish()
    return family


def parse_paper(text):
    """Return the paper that the text writes. Raise InvalidText if it writes none."""
    reader = Reader(text)
    reader.pass_over(BEFORE_RISING)
    rising = _read_family(reader)
    reader.pass_over(BEFORE_FALLING)
    falling = _read_family(reader)
    reader.finish()
    return (rising, falling)


def _read_family(reader):
    """Read a family, which has no lists if no list begins here: then whoever goes on reads what comes instead."""
    family = []
    if reader.sees(EMPTY_LIST) or reader.sees_digit():
        family.append(_read_list(reader))
        while reader.sees(" "):
            reader.pass_over(BETWEEN_LISTS)
            family.append(_read_list(reader))
    return family


def _read_list(reader):
    if reader.sees(EMPTY_LIST):
        reader.pass_over(EMPTY_LIST)
        return []
    indexes = [reader.read_index()]
    # Behind a space, another list may come as well as another index.
    while reader.sees(" ") and not reader.sees(" /"):
        reader.pass_over(" ")
        indexes.append(reader.read_index())
    return indexes
