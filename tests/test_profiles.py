"""Points 9, 10 and 16: the profile of a word."""

import unittest
from itertools import permutations, product
from random import Random

from coverpapers.covers import rises
from coverpapers.moves import allowed_moves, make_move
from coverpapers.pairs import table_of, word_of
from coverpapers.profiles import profile
from coverpapers.tables import shape_of
from tests.examples import BIG, SMALL_TABLES, different_words, growths, long_words, records, small_words
from tests.test_families import may_rise

WORDS = [*small_words((-1, 0, 1, 2), 5), *different_words(Random(31)), *long_words()]


class ProfileTest(unittest.TestCase):
    def test_some_words(self):
        self.assertEqual(profile([2, 3, 1, 2]), [(1, (1,)), (2, (2, 1)), (3, (2, 2))])
        self.assertEqual(profile([5]), [(5, (1,))])
        self.assertEqual(profile([0, -1]), [(-1, (1,)), (0, (1, 1))])
        self.assertEqual(profile([BIG, -BIG, 0]), [(-BIG, (1,)), (0, (2,)), (BIG, (2, 1))])

    def test_equal_letters(self):
        self.assertEqual(profile([4, 4, 4]), [(4, (3,))])
        self.assertEqual(profile([1, 0, 1, 0]), [(0, (2,)), (1, (2, 2))])
        self.assertEqual(profile([1, 0, 0, 1]), [(0, (2,)), (1, (3, 1))])

    def test_the_empty_word(self):
        self.assertEqual(profile([]), [])

    def test_the_bounds_are_the_letters_in_ascending_order(self):
        for word in WORDS:
            self.assertEqual([bound for bound, _ in profile(word)], sorted(set(word)))

    def test_each_bound_has_the_rises_of_the_letters_up_to_it(self):
        for word in WORDS:
            for bound, numbers in profile(word):
                self.assertEqual(numbers, rises([letter for letter in word if letter <= bound]), word)

    def test_they_tell_the_greatest_covers_up_to_each_bound(self):
        for word in small_words((0, 1, 2), 5):
            for bound, numbers in profile(word):
                self.assertEqual(numbers, growths([letter for letter in word if letter <= bound], may_rise))

    def test_the_kinds_of_values(self):
        for word in ([], [4], [2, 3, 1, 2]):
            self.assertIs(type(profile(word)), list)
            for pair in profile(word):
                self.assertIs(type(pair), tuple)
                self.assertIs(type(pair[1]), tuple)

    def test_a_move_leaves_the_profile(self):
        for word in WORDS:
            told = profile(word)
            for move in allowed_moves(word):
                self.assertEqual(profile(make_move(word, move)), told, (word, move))

    def test_words_with_the_same_table_have_the_same_profile(self):
        for table in SMALL_TABLES:
            profiles = [profile(word_of(table, record)) for record in records(shape_of(table))]
            self.assertEqual(profiles, profiles[:1] * len(profiles), table)

    def test_words_have_the_same_profile_exactly_if_they_have_the_same_table(self):
        contents = [sorted(set(permutations(content))) for content in ((0, 0, 1, 1, 2), (0, 1, 2, 3, 4))]
        for words in [*contents, list(product((-1, 0, 1), repeat=3)), list(small_words((0, 1), 4))]:
            told = [(profile(list(word)), table_of(list(word))) for word in words]
            for (profile1, table1), (profile2, table2) in product(told, repeat=2):
                self.assertEqual(profile1 == profile2, table1 == table2)

    def test_the_word_stays_as_it_is(self):
        word = [2, 3, 1, 2]
        profile(word).append("x")
        self.assertEqual(word, [2, 3, 1, 2])
        self.assertEqual(profile(word), [(1, (1,)), (2, (2, 1)), (3, (2, 2))])


if __name__ == "__main__":
    unittest.main()
