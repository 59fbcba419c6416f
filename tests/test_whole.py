"""Points 1, 2 and 3 over the whole program: covers, papers, paths and notes together, arguments, values and errors."""

import unittest
from copy import deepcopy
from itertools import permutations, product
from random import Random

from coverpapers import (
    carrying,
    columns,
    covers,
    families,
    moves,
    notation,
    operators,
    pairs,
    parting,
    paths,
    profiles,
    rows,
    tables,
    turning,
)
from coverpapers import errors as error_classes
from coverpapers.covers import falling_paper, greatest_falling, greatest_rising, rising_paper
from coverpapers.errors import (
    CoverError,
    EmptyWindow,
    InvalidText,
    NoCorner,
    NotRelated,
    OutOfRange,
    Related,
    WrongMove,
    WrongShape,
)
from coverpapers.families import cover, judge
from coverpapers.pairs import table_of
from coverpapers.parting import judge_note, note
from coverpapers.paths import path_between, walk
from coverpapers.windows import Window
from tests.examples import greatest_cover, has_its_own_lists, lists_in, long_words, small_words
from tests.test_errors import NAMES
from tests.test_families import families_of, may_fall, may_rise
from tests.test_interface import FUNCTIONS

WORD = [2, 3, 1, 2]
TABLE = ((1, 2), (2, 3))

# Each function of the interface but turn, which takes its bounds by keyword, with arguments for it.
CALLS = [
    (families.is_rising_family, (WORD, [[0, 1], [], [2, 3]])),
    (families.is_falling_family, (WORD, [[0, 2], [1, 3], []])),
    (families.cover, ([[0, 1], [], [2]],)),
    (families.judge, (WORD, [[0, 1]], [[0, 2], [1, 3]])),
    (moves.allowed_moves, (WORD,)),
    (moves.make_move, (WORD, (0, "right"))),
    (tables.is_table, (TABLE,)),
    (tables.is_record, (((1, 2), (3, 4)),)),
    (tables.shape_of, (TABLE,)),
    (tables.reading_word, (TABLE,)),
    (tables.corners, (TABLE,)),
    (tables.conjugate, ((3, 1),)),
    (rows.insert_into_row, ((1, 2), 1)),
    (rows.insert_by_rows, (TABLE, 1)),
    (rows.take_by_rows, (TABLE, (1, 1))),
    (columns.insert_by_columns, (TABLE, 1)),
    (columns.take_by_columns, (TABLE, (1, 1))),
    (pairs.table_of, (WORD,)),
    (pairs.table_by_columns, (WORD,)),
    (pairs.pair_of, (WORD,)),
    (pairs.word_of, (TABLE, ((1, 2), (3, 4)))),
    (paths.walk, (WORD, [(0, "right")])),
    (paths.walk, (WORD, [])),
    (paths.path_to_table, ([1, 3, 2, 2],)),
    (paths.path_between, (WORD, [2, 1, 3, 2])),
    (paths.path_between, (WORD, WORD)),
    (carrying.carry_rising, (WORD, (0, "right"), [[0, 1], [], [2, 3]])),
    (carrying.carry_falling, (WORD, (0, "right"), [[0, 2], [1, 3], []])),
    (carrying.carry_falling, (WORD, (0, "right"), [])),
    (covers.rises, (WORD,)),
    (covers.falls, (WORD,)),
    (covers.greatest_rising, (WORD, 1)),
    (covers.greatest_falling, (WORD, 1)),
    (covers.rising_paper, (WORD, 4)),
    (covers.rising_paper, ([], 3)),
    (covers.falling_paper, (WORD, 4)),
    (covers.falling_paper, ([], 3)),
    (covers.longest_rising, (WORD,)),
    (covers.longest_falling, (WORD,)),
    (covers.part_rising, (WORD,)),
    (covers.part_falling, (WORD,)),
    (covers.part_falling, ([],)),
    (profiles.profile, (WORD,)),
    (parting.note, (WORD, [1, 2, 2, 3])),
    (parting.note, (WORD, [1])),
    (parting.judge_note, ([1, 2], [2, 1], ("cover", 2, [[0, 1]], ([[0]], [[0, 1]]), False))),
    (turning.turn_family, (WORD, [[0, 1], [], [2, 3]])),
    (operators.lowered, (WORD, 2)),
    (operators.raised, (WORD, 2)),
    (operators.exchanged, (WORD, 2)),
    (notation.format_word, (WORD,)),
    (notation.format_family, ([[0, 1], []],)),
    (notation.format_paper, (([[0, 1], []], [[]]),)),
    (notation.parse_word, ("1 2",)),
    (notation.parse_family, ("1 2 / - / -",)),
    (notation.parse_paper, ("rising - / -; falling 1",)),
]

# Each error with the calls that raise it.
ERRORS = [
    (WrongMove, moves.make_move, (WORD, (0, "left"))),
    (WrongMove, paths.walk, (WORD, [(0, "right"), (5, "left")])),
    (WrongMove, carrying.carry_rising, (WORD, (0, "left"), [[0, 1]])),
    (WrongMove, carrying.carry_falling, (WORD, (-1, "right"), [[0, 2]])),
    (NotRelated, paths.path_between, (WORD, [1, 2, 2, 3])),
    (NotRelated, paths.path_between, (WORD, [1, 2, 2])),
    (Related, parting.note, (WORD, [2, 1, 3, 2])),
    (Related, parting.note, (WORD, WORD)),
    (NoCorner, rows.take_by_rows, (TABLE, (0, 1))),
    (NoCorner, columns.take_by_columns, (TABLE, (0, 1))),
    (WrongShape, pairs.word_of, (TABLE, ((1, 2, 3), (4,)))),
    (OutOfRange, covers.greatest_rising, (WORD, -1)),
    (OutOfRange, covers.greatest_falling, (WORD, -1)),
    (OutOfRange, covers.rising_paper, (WORD, -1)),
    (OutOfRange, covers.falling_paper, (WORD, -1)),
    (InvalidText, notation.parse_word, ("1 x",)),
    (InvalidText, notation.parse_family, ("1 / ",)),
    (InvalidText, notation.parse_paper, ("rising ",)),
]


def words_of_one_content():
    """Make lists of words with the same letters."""
    for content in ((0,), (0, 1), (0, 1, 1), (0, 1, 2), (0, 0, 1, 1), (0, 1, 1, 2), (0, 1, 2, 3), (0, 0, 1, 1, 2)):
        yield [list(word) for word in sorted(set(permutations(content)))]


class PapersTest(unittest.TestCase):
    def test_the_judge_takes_no_paper_whose_covers_are_not_greatest(self):
        for word in small_words((0, 1, 2), 3):
            covers_of = {}
            for k in range(3):
                covers_of[k] = (greatest_cover(word, k, may_rise), greatest_cover(word, k, may_fall))
            for k, m in product(range(3), repeat=2):
                for rising in families_of(word, k, may_rise):
                    for falling in families_of(word, m, may_fall):
                        if judge(word, rising, falling):
                            self.assertEqual((cover(rising), cover(falling)), (covers_of[k][0], covers_of[m][1]))

    def test_each_cover_that_is_told_comes_with_a_paper(self):
        for word in [*small_words((0, 1, 2), 4), *long_words()]:
            for count in (0, 1, 2, 3, len(word), len(word) + 1):
                window = Window(word)
                for paper in (rising_paper(word, count), window.paper(count)):
                    self.assertTrue(judge(word, *paper))
                    self.assertEqual(cover(paper[0]), greatest_rising(word, count))
                    self.assertEqual(cover(paper[0]), window.greatest(count))
                for paper in (falling_paper(word, count), window.paper(count, falling=True)):
                    self.assertTrue(judge(word, *paper))
                    self.assertEqual(cover(paper[1]), greatest_falling(word, count))
                    self.assertEqual(cover(paper[1]), window.greatest(count, falling=True))


class PathsAndNotesTest(unittest.TestCase):
    def check(self, first, second):
        """Either a path joins the words, or a note parts them."""
        try:
            path = path_between(first, second)
        except NotRelated:
            self.assertNotEqual(table_of(first), table_of(second))
            self.assertIs(judge_note(first, second, note(first, second)), True, (first, second))
            return
        self.assertEqual(walk(first, path), second)
        self.assertEqual(table_of(first), table_of(second))
        with self.assertRaises(Related):
            note(first, second)

    def test_each_two_words_of_a_content(self):
        for words in words_of_one_content():
            for first, second in product(words, repeat=2):
                self.check(first, second)

    def test_long_words(self):
        source = Random(91)
        for word in long_words():
            shuffled = list(word)
            source.shuffle(shuffled)
            for other in (word, word[::-1], shuffled, tables.reading_word(table_of(word))):
                self.check(word, other)
                self.check(other, word)

    def test_words_have_the_same_covers_up_to_each_bound_exactly_if_a_path_joins_them(self):
        for words in words_of_one_content():
            told = []
            for word in words:
                parts = [[letter for letter in word if letter <= bound] for bound in range(4)]
                counts = range(len(word) + 1)
                told.append([[greatest_cover(part, count, may_rise) for count in counts] for part in parts])
            for (first, covers1), (second, covers2) in product(zip(words, told), repeat=2):
                try:
                    path_between(first, second)
                    joined = True
                except NotRelated:
                    joined = False
                self.assertEqual(covers1 == covers2, joined, (first, second))


class ValuesTest(unittest.TestCase):
    """Point 3: arguments stay as they are, and each list in a value is one of its own."""

    def test_all_functions_are_called(self):
        called = {(told.__module__, told.__name__) for told, _ in CALLS}
        called.add(("coverpapers.turning", "turn"))
        listed = {(f"coverpapers.{module}", name) for module, names in FUNCTIONS.items() for name in names}
        self.assertEqual(called, listed)

    def test_arguments_stay_as_they_are(self):
        for told, arguments in CALLS:
            before = deepcopy(arguments)
            told(*arguments)
            self.assertEqual(arguments, before, told)

    def test_no_list_is_one_of_an_argument_or_of_an_earlier_value_or_stands_there_twice(self):
        for told, arguments in CALLS:
            first = told(*arguments)
            second = told(*arguments)
            self.assertTrue(has_its_own_lists(first, arguments), told)
            self.assertTrue(has_its_own_lists(second, arguments, first), told)

    def test_a_change_of_a_value_changes_no_later_one(self):
        for told, arguments in CALLS:
            first = told(*arguments)
            expected = deepcopy(first)
            for part in lists_in(first):
                part.append("x")
            self.assertEqual(told(*arguments), expected, told)

    def test_papers_notes_and_pairs_are_tuples(self):
        for value in (
            rising_paper(WORD, 1),
            falling_paper(WORD, 1),
            Window(WORD).paper(1),
            Window(WORD).paper(1, falling=True),
            note([1, 2], [2, 1]),
            note([1], [2]),
            note([1, 2], [2, 1])[3],
            covers.rises(WORD),
            covers.falls(WORD),
            covers.part_rising(WORD),
            covers.part_falling(WORD),
            notation.parse_paper("rising ; falling "),
            *profiles.profile(WORD),
        ):
            self.assertIs(type(value), tuple)


class ErrorsTest(unittest.TestCase):
    def check_error(self, error, told, *arguments, **named):
        before = deepcopy((arguments, named))
        with self.assertRaises(error) as caught:
            told(*arguments, **named)
        self.assertIs(type(caught.exception), error, told)
        self.assertIsInstance(caught.exception, CoverError)
        self.assertIsInstance(caught.exception, ValueError)
        self.assertEqual((arguments, named), before)
        return caught.exception

    def test_each_error_is_raised_by_the_call_that_is_told(self):
        for error, told, arguments in ERRORS:
            raised = self.check_error(error, told, *arguments)
            if error is InvalidText:
                self.assertIs(type(raised.position), int)
        self.check_error(OutOfRange, turning.turn, [0], least=1, greatest=2)
        window = Window(WORD)
        for falling in (False, True):
            self.check_error(OutOfRange, window.greatest, -1, falling=falling)
            self.check_error(OutOfRange, window.paper, -1, falling=falling)
        self.assertEqual(window.word(), WORD)
        self.check_error(EmptyWindow, Window().pop_left)
        self.check_error(EmptyWindow, Window().pop_right)

    def test_each_error_is_raised_by_some_call(self):
        raised = {error for error, _, _ in ERRORS} | {EmptyWindow}
        self.assertEqual(raised, {getattr(error_classes, name) for name in NAMES})

    def test_a_call_after_an_error_returns_what_it_returned_before(self):
        for told, arguments in CALLS:
            before = told(*arguments)
            for _, wrong, wrong_arguments in ERRORS:
                if wrong == told:
                    with self.assertRaises(CoverError):
                        wrong(*wrong_arguments)
            self.assertEqual(told(*arguments), before)


class LargeNumbersTest(unittest.TestCase):
    """Integers may be of any size, also larger than Python writes out by itself."""

    def test_letters_of_thousands_of_digits(self):
        huge = 10 ** 5000
        word = [2 * huge, 3 * huge, -huge, 2 * huge]
        self.assertEqual(covers.rises(word), (2, 2))
        self.assertTrue(judge(word, *rising_paper(word, 1)))
        self.assertEqual(Window(word).table(), ((-huge, 2 * huge), (2 * huge, 3 * huge)))
        self.assertEqual(turning.turn([huge], least=0, greatest=huge + 1), [1])
        self.assertEqual(operators.lowered([huge], huge), [huge + 1])
        self.assertEqual(note([huge], [huge + 1]), ("content",))
        self.assertEqual(note([-huge, huge], [huge, -huge])[1], huge)

    def test_errors_about_numbers_of_thousands_of_digits(self):
        huge = 10 ** 5000
        for error, told, arguments in (
            (OutOfRange, covers.greatest_rising, (WORD, -huge)),
            (OutOfRange, covers.rising_paper, (WORD, -huge)),
            (OutOfRange, Window(WORD).greatest, (-huge,)),
            (WrongMove, carrying.carry_rising, (WORD, (huge, "left"), [])),
            (NotRelated, path_between, ([huge], [huge + 1])),
            (Related, note, ([huge], [huge])),
        ):
            with self.assertRaises(error):
                told(*arguments)
        with self.assertRaises(OutOfRange):
            turning.turn([huge], least=-huge, greatest=huge - 1)


if __name__ == "__main__":
    unittest.main()
