"""Points 8, 10 and 16: walking paths, and paths to the table and between related words."""

import unittest
from itertools import permutations, product
from random import Random

from coverpapers.errors import NotRelated, WrongMove
from coverpapers.moves import allowed_moves, make_move
from coverpapers.pairs import table_of, word_of
from coverpapers.paths import path_between, path_to_table, walk
from coverpapers.tables import reading_word, shape_of
from tests.examples import BIG, LARGE_TABLES, SMALL_TABLES, long_words, records, small_words


def related_words(word):
    """Find all words to which allowed moves lead."""
    found = [list(word)]
    for other in found:
        for move in allowed_moves(other):
            after = make_move(other, move)
            if after not in found:
                found.append(after)
    return found


def wandered(word, source):
    """Make allowed moves, so many that the word changes through and through."""
    for _ in range(10 * len(word)):
        moves = allowed_moves(word)
        if moves:
            word = make_move(word, source.choice(moves))
    return word


class PathTest(unittest.TestCase):
    def check_path(self, word, path, target, most):
        """Make the moves of the path one by one."""
        self.assertIs(type(path), list)
        self.assertLessEqual(len(path), most, word)
        after = list(word)
        for move in path:
            self.assertIs(type(move), tuple)
            self.assertIn(move, allowed_moves(after), (word, path))
            after = make_move(after, move)
        self.assertEqual(after, target, word)


class WalkTest(unittest.TestCase):
    def test_one_move(self):
        for word in small_words((0, 1, 2), 5):
            for move in allowed_moves(word):
                self.assertEqual(walk(word, [move]), make_move(word, move))

    def test_moves_are_made_one_after_the_other(self):
        self.assertEqual(walk([1, 3, 2, 5, 4], [(0, "left"), (2, "left")]), [3, 1, 5, 2, 4])
        self.assertEqual(walk([1, 3, 2, 5, 4], [(0, "left"), (2, "left"), (0, "right")]), [3, 5, 1, 2, 4])
        self.assertEqual(walk([2, 2, 1, 3, 1], [(0, "right"), (2, "right")]), [2, 1, 2, 1, 3])

    def test_the_empty_path(self):
        for word in ([], [5], [1, 2], [2, 3, 1, 2], [BIG, -BIG]):
            after = walk(word, [])
            self.assertEqual(after, word)
            self.assertIsNot(after, word)

    def test_a_path_that_is_walked_from_its_end_leads_back(self):
        source = Random(3)
        for start in long_words():
            word = list(start)
            path = []
            for _ in range(50):
                if allowed_moves(word):
                    path.append(source.choice(allowed_moves(word)))
                    word = make_move(word, path[-1])
            self.assertEqual(walk(start, path), word)
            self.assertEqual(walk(word, path[::-1]), start)

    def test_a_move_that_is_not_allowed_anywhere_in_a_path(self):
        word = [1, 3, 2, 5, 4]
        good = [(0, "left"), (2, "left"), (0, "right")]
        self.assertEqual(walk(word, good), [3, 5, 1, 2, 4])
        bad_moves = [(-1, "left"), (3, "left"), (3, "right"), (BIG, "right"), (-BIG, "left"), (0, "up"), (0, "")]
        for place in range(len(good) + 1):
            for bad in bad_moves:
                with self.assertRaises(WrongMove, msg=(place, bad)):
                    walk(word, good[:place] + [bad] + good[place:])

    def test_a_move_that_is_allowed_only_before_those_that_are_made_first(self):
        word = [1, 3, 2, 4]
        self.assertEqual(allowed_moves(word), [(0, "left"), (1, "right")])
        with self.assertRaises(WrongMove):
            walk(word, [(0, "left"), (1, "right")])

    def test_a_move_that_is_allowed_only_after_those_that_are_made_first(self):
        for word in small_words((0, 1, 2), 5):
            for first in allowed_moves(word):
                after = make_move(word, first)
                for second in product(range(-1, len(word)), ("left", "right")):
                    if second in allowed_moves(after):
                        self.assertEqual(walk(word, [first, second]), make_move(after, second))
                    else:
                        with self.assertRaises(WrongMove, msg=(word, first, second)):
                            walk(word, [first, second])

    def test_no_move_is_allowed_on_words_of_0_1_and_2_letters(self):
        for word in ([], [0], [0, 1], [1, 0]):
            for index in (-2, -1, 0, 1, 2):
                for side in ("left", "right"):
                    with self.assertRaises(WrongMove):
                        walk(word, [(index, side)])


class PathToTableTest(PathTest):
    def check(self, word):
        self.check_path(word, path_to_table(word), reading_word(table_of(word)), len(word) ** 2)

    def test_small_words(self):
        for word in small_words((-1, 0, 1, 2), 6):
            self.check(word)

    def test_words_of_different_letters(self):
        for n in range(8):
            for word in permutations(range(n)):
                self.check(list(word))

    def test_words_of_0_1_and_2_letters(self):
        for word in ([], [0], [7], [1, 2], [2, 1], [3, 3], [-BIG, BIG]):
            self.assertEqual(path_to_table(word), [], word)

    def test_long_words(self):
        for word in long_words():
            self.check(word)

    def test_the_path_of_a_reading_word_is_empty(self):
        for table in [*SMALL_TABLES, *LARGE_TABLES]:
            self.assertEqual(path_to_table(reading_word(table)), [], table)
        for word in long_words():
            self.assertEqual(path_to_table(reading_word(table_of(word))), [], word)


class PathBetweenTest(PathTest):
    def check(self, first, second):
        self.check_path(first, path_between(first, second), second, 2 * len(first) ** 2)

    def check_refused(self, first, second):
        for one, other in ((first, second), (second, first)):
            with self.assertRaises(NotRelated, msg=(one, other)):
                path_between(one, other)

    def check_with_each(self, first, words):
        """Compare with a search through all words to which moves lead."""
        related = related_words(first)
        for second in words:
            if second in related:
                self.check(first, second)
            else:
                self.check_refused(first, second)

    def test_each_two_small_words(self):
        for n in range(5):
            words = [list(word) for word in product(range(3), repeat=n)]
            for first in words:
                self.check_with_each(first, words)

    def test_each_two_orders_of_some_letters(self):
        for content in ((0, 1, 2, 3, 4), (0, 0, 1, 1, 2), (0, 1, 1, 1, 2), (-1, -1, 0, 0, 1, 1)):
            words = [list(word) for word in sorted(set(permutations(content)))]
            for first in words[::3]:
                self.check_with_each(first, words)

    def test_words_with_the_same_table(self):
        for table in SMALL_TABLES:
            words = [word_of(table, record) for record in records(shape_of(table))]
            for first, second in product(words, repeat=2):
                self.check(first, second)

    def test_a_word_and_itself(self):
        for word in [[], [4], [1, 2], [2, 1], *long_words()]:
            self.check(word, word)
            self.check(word, list(word))

    def test_long_words(self):
        source = Random(7)
        for word in long_words():
            other = wandered(word, source)
            self.check(word, other)
            self.check(other, word)
            self.check(word, reading_word(table_of(word)))
            self.check(reading_word(table_of(word)), word)

    def test_other_letters(self):
        self.check_refused([1], [2])
        self.check_refused([2, 1, 3], [2, 1, 4])
        self.check_refused([1, 1, 2], [1, 2, 2])
        self.check_refused([BIG], [BIG + 1])
        self.check_refused([0, -1, 1], [0, -2, 1])

    def test_other_numbers_of_letters(self):
        self.check_refused([], [0])
        self.check_refused([1, 2], [1, 2, 3])
        self.check_refused([1, 1], [1])
        self.check_refused([2, 1, 3], [2, 1, 3, 3])

    def test_the_same_letters_in_another_order(self):
        self.check_refused([1, 2], [2, 1])
        self.check_refused([1, 2, 3], [3, 2, 1])
        self.check_refused([2, 1, 3], [1, 3, 2])
        self.check_refused([2, 2, 1, 1], [2, 1, 1, 2])
        # tables of one shape with other letters in the cells
        self.check_refused([2, 1, 3], [3, 1, 2])

    def test_long_words_that_are_not_related(self):
        for word in long_words():
            if table_of(word) != table_of(word[::-1]):
                self.check_refused(word, word[::-1])
            self.check_refused(word, [*word[:-1], word[-1] + 1])


class ArgumentsTest(unittest.TestCase):
    """Point 3: arguments stay as they are, and what is returned shares nothing with them."""

    def test_words_and_paths_stay_as_they_are(self):
        word = [2, 3, 1, 2]
        path = [(0, "right")]
        after = walk(word, path)
        self.assertEqual((word, path), ([2, 3, 1, 2], [(0, "right")]))
        after.append(7)
        self.assertEqual(word, [2, 3, 1, 2])
        path_to_table(word)
        other = [2, 1, 3, 2]
        path_between(word, other)
        path_between(word, word)
        self.assertEqual((word, other), ([2, 3, 1, 2], [2, 1, 3, 2]))

    def test_an_error_changes_nothing(self):
        word = [2, 3, 1, 2]
        path = [(0, "right"), (0, "left")]
        with self.assertRaises(WrongMove):
            walk(word, path)
        other = [1, 2, 2, 3]
        with self.assertRaises(NotRelated):
            path_between(word, other)
        self.assertEqual(word, [2, 3, 1, 2])
        self.assertEqual(path, [(0, "right"), (0, "left")])
        self.assertEqual(other, [1, 2, 2, 3])

    def test_each_call_returns_a_list_of_its_own(self):
        for word in ([], [1, 2, 3], [1, 3, 2]):
            expected = list(path_to_table(word))
            path_to_table(word).append("x")
            self.assertEqual(path_to_table(word), expected)
            between = list(path_between(word, word))
            path_between(word, word).append("x")
            self.assertEqual(path_between(word, word), between)
            walk(word, []).append("x")
            self.assertEqual(walk(word, []), word)


if __name__ == "__main__":
    unittest.main()
