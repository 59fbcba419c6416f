"""Point 20: words, families and papers as texts."""

import unittest
from copy import deepcopy
from itertools import product
from random import Random

from coverpapers.covers import falling_paper, rising_paper
from coverpapers.errors import InvalidText
from coverpapers.notation import format_family, format_paper, format_word, parse_family, parse_paper, parse_word
from tests.examples import BIG, has_its_own_lists, lists_in, long_words, small_words
from tests.grammar import FAMILY, PAPER, WORD, behind, first_invalid

KINDS = {
    "word": (WORD, parse_word, format_word),
    "family": (FAMILY, parse_family, format_family),
    "paper": (PAPER, parse_paper, format_paper),
}

LONGEST = int("1234567890" * 6)
NINES = 10 ** 60 - 1

WORDS = [
    [],
    [0],
    [7],
    [-7],
    [10, 0, -10],
    [2, 3, 1, 2],
    [0, 0, 0],
    [-1, -20, 305],
    [BIG, -BIG, 100],
    [LONGEST, -LONGEST, 10 ** 59, -(10 ** 59), NINES, -NINES],
]

FAMILIES = [
    [],
    [[]],
    [[], []],
    [[0]],
    [[0], []],
    [[], [0]],
    [[], [3], [], []],
    [[0, 3], [1, 2]],
    [[10, 20, 100], [5]],
    [[0, 0], [3, 1]],
    [[LONGEST], [0, NINES], [], [10 ** 59]],
]

PAPERS = [
    ([], []),
    ([[]], []),
    ([], [[]]),
    ([[0, 3], []], [[1, 2]]),
    ([[0], [10, 2]], [[], [], [5]]),
    ([[LONGEST, NINES]], [[NINES], []]),
    rising_paper([2, 3, 1, 2], 1),
    falling_paper([3, 1, 2, 2], 2),
]

VALUES = {"word": WORDS, "family": FAMILIES, "paper": PAPERS}


class FormatTest(unittest.TestCase):
    def test_words(self):
        for word, text in (
            ([], ""),
            ([0], "0"),
            ([5], "5"),
            ([-5], "-5"),
            ([2, 3, 1, 2], "2 3 1 2"),
            ([-1, 0, 10, -200], "-1 0 10 -200"),
            ([BIG, -BIG], "1" + "0" * 40 + " -1" + "0" * 40),
            ([LONGEST], "1234567890" * 6),
            ([-NINES], "-" + "9" * 60),
        ):
            self.assertEqual(format_word(word), text)
            self.assertEqual(parse_word(text), word)

    def test_families(self):
        for family, text in (
            ([], ""),
            ([[]], "-"),
            ([[], []], "- / -"),
            ([[0]], "0"),
            ([[0, 3], []], "0 3 / -"),
            ([[], [1], []], "- / 1 / -"),
            ([[12, 34], [5], [0, 60]], "12 34 / 5 / 0 60"),
            ([[NINES]], "9" * 60),
        ):
            self.assertEqual(format_family(family), text)
            self.assertEqual(parse_family(text), family)

    def test_papers(self):
        for paper, text in (
            (([[0, 3], []], [[1, 2]]), "rising 0 3 / -; falling 1 2"),
            (([], []), "rising ; falling "),
            (([[]], []), "rising -; falling "),
            (([], [[]]), "rising ; falling -"),
            (([[0], [1]], [[], [2, 3], []]), "rising 0 / 1; falling - / 2 3 / -"),
        ):
            self.assertEqual(format_paper(paper), text)
            self.assertEqual(parse_paper(text), paper)

    def test_each_text_is_read_back(self):
        for name, (language, parse, write) in KINDS.items():
            for value in VALUES[name]:
                before = deepcopy(value)
                text = write(value)
                self.assertIs(type(text), str)
                self.assertIsNone(first_invalid(language, text), text)
                self.assertEqual(parse(text), value)
                self.assertEqual(value, before)

    def test_words_and_their_papers_are_read_back(self):
        for word in [*small_words((-1, 0, 12), 4), *long_words()]:
            self.assertEqual(parse_word(format_word(word)), word)
            for paper in (rising_paper(word, 2), falling_paper(word, 3)):
                self.assertEqual(parse_paper(format_paper(paper)), paper)
                self.assertEqual(parse_family(format_family(paper[0])), paper[0])

    def test_nothing_else_of_a_family_or_of_a_paper_is_checked(self):
        self.assertEqual(parse_family("3 1 1 / 3"), [[3, 1, 1], [3]])
        self.assertEqual(parse_paper("rising 5 5; falling 5"), ([[5, 5]], [[5]]))

    def test_the_kinds_of_values(self):
        for text in ("", "4", "1 2"):
            self.assertIs(type(parse_word(text)), list)
            self.assertIs(type(parse_family(text)), list)
        for text in ("", "- / 1", "1 2 / 3"):
            for indexes in parse_family(text):
                self.assertIs(type(indexes), list)
        paper = parse_paper("rising - / 1; falling -")
        self.assertIs(type(paper), tuple)
        self.assertEqual([type(part) for part in (*paper, *paper[0], *paper[1])], [list] * 5)

    def test_each_call_returns_lists_of_its_own(self):
        for name, (_, parse, write) in KINDS.items():
            for value in VALUES[name]:
                text = write(value)
                first = parse(text)
                self.assertTrue(has_its_own_lists(first, value))
                for part in lists_in(first):
                    part.append(3)
                self.assertEqual(parse(text), value)


class InvalidTextTest(unittest.TestCase):
    def check(self, name, text):
        """Compare with what the language of the texts leaves behind each character."""
        self.check_behind(name, "", KINDS[name][0], text)

    def check_behind(self, name, start, language, rest):
        """Compare likewise, given the language of what may come behind the start of the text."""
        _, parse, write = KINDS[name]
        place = first_invalid(language, rest)
        if place is None:
            self.assertEqual(write(parse(start + rest)), start + rest)
        else:
            self.check_position(parse, start + rest, len(start) + place)

    def check_position(self, parse, text, place):
        with self.assertRaises(InvalidText, msg=(parse, text)) as caught:
            parse(text)
        self.assertEqual(caught.exception.position, place, (parse, text))
        self.assertIs(type(caught.exception.position), int)

    def test_some_words(self):
        for text, place in (
            ("x", 0),
            (" ", 0),
            ("1 ", 2),
            (" 1", 0),
            ("1  2", 2),
            ("-", 1),
            ("1 -", 3),
            ("-0", 1),
            ("1 -0", 3),
            ("--1", 1),
            ("- 1", 1),
            ("1-2", 1),
            ("00", 1),
            ("01", 1),
            ("-01", 1),
            ("1 02", 3),
            ("+1", 0),
            ("1,2", 1),
            ("1.5", 1),
            ("1_000", 1),
            ("1\t2", 1),
            ("1\n", 1),
            ("\n", 0),
            ("\t1", 0),
            ("1 / 2", 2),
            ("0x1", 1),
        ):
            self.check_position(parse_word, text, place)

    def test_some_families(self):
        for text, place in (
            ("x", 0),
            (" ", 0),
            (";", 0),
            ("/", 0),
            (" / ", 0),
            ("-1", 1),
            ("- 1", 2),
            ("1 -", 2),
            ("1 -2", 2),
            ("--", 1),
            ("- -", 2),
            ("-  / -", 2),
            ("- / -1", 5),
            ("0 / -0", 5),
            ("0 / -2 1", 5),
            ("0 /", 3),
            ("0 / ", 4),
            ("0 ", 2),
            ("- ", 2),
            ("- /", 3),
            ("0/1", 1),
            ("0 /1", 3),
            ("0  / 1", 2),
            ("0 /  1", 4),
            ("0 / / 1", 4),
            ("01", 1),
            ("0 00", 3),
            ("1 2 / 3;", 7),
            ("1\n", 1),
            ("1\t/ 2", 1),
            ("1 / -\n", 5),
        ):
            self.check_position(parse_family, text, place)

    def test_some_papers(self):
        for text, place in (
            ("", 0),
            ("rising", 6),
            ("Rising 0; falling 0", 0),
            ("rising 0", 8),
            ("rising 0;", 9),
            ("rising 0; falling", 17),
            ("rising ", 7),
            ("rising ;", 8),
            ("rising  ; falling ", 7),
            ("rising 0 ; falling ", 9),
            ("rising 0;falling ", 9),
            ("rising 0; falling 1 ", 20),
            ("rising 0; falling -1", 19),
            ("rising -1; falling ", 8),
            ("rising - 1; falling ", 9),
            ("rising 0; falling 1;", 19),
            ("rising 0; falling 1\n", 19),
            ("rising 0; rising 1", 10),
            ("falling 0; rising 1", 0),
            ("rising 0 3 / ; falling 1 2", 13),
            ("rising 0 3 / -; falling 1 2 x", 28),
        ):
            self.check_position(parse_paper, text, place)

    def test_a_minus_sign_in_a_family_against_one_in_a_word(self):
        self.assertEqual(parse_word("-1"), [-1])
        self.check_position(parse_family, "-1", 1)
        self.assertEqual(parse_family("-"), [[]])
        self.check_position(parse_word, "-", 1)
        self.assertEqual(parse_family("- / -"), [[], []])
        self.check_position(parse_word, "- / -", 1)

    def test_the_61st_digit(self):
        for digits in ("1" * 60, "9" * 60, "1234567890" * 6):
            self.assertEqual(parse_word(digits), [int(digits)])
            self.assertEqual(parse_word("0 -" + digits), [0, -int(digits)])
            self.assertEqual(parse_family("- / " + digits), [[], [int(digits)]])
            for more in ("0", "7", "00", "3x", "0 1"):
                self.check_position(parse_word, digits + more, 60)
                self.check_position(parse_word, "-" + digits + more, 61)
                self.check_position(parse_word, "5 -" + digits + more, 63)
                self.check_position(parse_family, digits + more, 60)
                self.check_position(parse_family, "- / " + digits + more, 64)
                self.check_position(parse_paper, "rising " + digits + more, 67)
                self.check_position(parse_paper, "rising ; falling " + digits + more, 77)
        self.check_position(parse_word, "1" * 5000, 60)

    def test_all_short_texts(self):
        for n in range(6):
            for characters in product(" -/;012", repeat=n):
                text = "".join(characters)
                self.check("word", text)
                self.check("family", text)

    def test_all_short_families_in_papers(self):
        for n in range(5):
            for characters in product(" -/;03", repeat=n):
                text = "".join(characters)
                self.check("paper", f"rising {text}; falling 1")
                self.check("paper", f"rising {text}")
                self.check("paper", f"rising 1; falling {text}")

    def test_texts_that_end_too_early(self):
        for name, values in VALUES.items():
            for value in values:
                text = KINDS[name][2](value)
                for length in range(len(text)):
                    self.check(name, text[:length])

    def test_a_character_put_in_changed_or_taken_out_at_every_place(self):
        for name, values in VALUES.items():
            for value in values:
                language, _, write = KINDS[name]
                text = write(value)
                for place in range(len(text) + 1):
                    start, rest = text[:place], text[place:]
                    for character in " -/;0159\n\t~xrf":
                        self.check_behind(name, start, language, character + rest)
                        self.check_behind(name, start, language, character + rest[1:])
                    self.check_behind(name, start, language, rest[1:])
                    language = behind(language, rest[:1]) if rest else language

    def test_random_texts(self):
        source = Random(81)
        for name in KINDS:
            for _ in range(3000):
                text = "".join(source.choice("  --//0123456789;x\n") for _ in range(source.randint(0, 12)))
                self.check(name, text)
                self.check(name, "rising " + text)


if __name__ == "__main__":
    unittest.main()
