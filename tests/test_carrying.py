"""Point 9: carrying rising and falling families over moves."""

import unittest
from copy import deepcopy
from itertools import permutations, product
from random import Random

from coverpapers.carrying import carry_falling, carry_rising
from coverpapers.covers import falling_paper, rising_paper
from coverpapers.errors import WrongMove
from coverpapers.families import cover, is_falling_family, is_rising_family
from coverpapers.moves import allowed_moves, make_move
from tests.examples import BIG, different_words, has_its_own_lists, long_words, small_words
from tests.test_families import families_of, may_fall, may_rise

KINDS = [(carry_rising, is_rising_family, may_rise), (carry_falling, is_falling_family, may_fall)]


def random_family(word, count, fits, source):
    """Give the letters out to so many lists at random, and leave some of them out."""
    family = [[] for _ in range(count)]
    for index, letter in enumerate(word):
        places = [indexes for indexes in family if not indexes or fits(word[indexes[-1]], letter)]
        if places and source.random() < 0.9:
            source.choice(places).append(index)
    return family


class CarryTest(unittest.TestCase):
    def check(self, word, move, family, carry, is_family):
        before = deepcopy((word, family))
        carried = carry(word, move, family)
        told = (word, move, family, carried)
        self.assertIs(type(carried), list)
        self.assertEqual(len(carried), len(family), told)
        self.assertEqual(cover(carried), cover(family), told)
        self.assertTrue(is_family(make_move(word, move), carried), told)
        self.assertTrue(has_its_own_lists(carried, word, family), told)
        self.assertEqual((word, family), before)

    def check_all_families(self, word, counts):
        for carry, is_family, fits in KINDS:
            for move in allowed_moves(word):
                for count in counts:
                    for family in families_of(word, count, fits):
                        self.check(word, move, family, carry, is_family)

    def test_all_families_of_small_words(self):
        for word in small_words((0, 1, 2), 3):
            self.check_all_families(word, range(5))
        for word in product(range(3), repeat=4):
            self.check_all_families(list(word), range(4))

    def test_all_families_of_words_of_five_letters(self):
        for word in permutations(range(5)):
            self.check_all_families(list(word), (2,))
        for word in product(range(2), repeat=5):
            self.check_all_families(list(word), (1, 2))

    def test_random_families(self):
        source = Random(11)
        for word in [*different_words(source), *long_words()]:
            for move in allowed_moves(word):
                for carry, is_family, fits in KINDS:
                    for count in range(5):
                        self.check(word, move, random_family(word, count, fits, source), carry, is_family)

    def test_the_lists_of_papers(self):
        source = Random(12)
        for word in different_words(source):
            for move in allowed_moves(word):
                for count in (0, 1, 2, 3, 4, len(word)):
                    for rising, falling in (rising_paper(word, count), falling_paper(word, count)):
                        self.check(word, move, rising, carry_rising, is_rising_family)
                        self.check(word, move, falling, carry_falling, is_falling_family)

    def test_far_along_a_way(self):
        source = Random(13)
        for word in long_words():
            families = [random_family(word, 3, fits, source) for _, _, fits in KINDS]
            covers = [cover(family) for family in families]
            for _ in range(60):
                moves = allowed_moves(word)
                if moves:
                    move = source.choice(moves)
                    families = [carry(word, move, family) for (carry, _, _), family in zip(KINDS, families)]
                    word = make_move(word, move)
            self.assertTrue(is_rising_family(word, families[0]))
            self.assertTrue(is_falling_family(word, families[1]))
            self.assertEqual([cover(family) for family in families], covers)

    def test_no_lists_and_empty_lists(self):
        for carry, _, _ in KINDS:
            for word in ([2, 1, 3], [1, 3, 2], [2, 2, 1], [2, 1, 1]):
                for move in allowed_moves(word):
                    self.assertEqual(carry(word, move, []), [])
                    carried = carry(word, move, [[], [], []])
                    self.assertEqual(carried, [[], [], []])
                    self.assertTrue(has_its_own_lists(carried))


class WrongMoveTest(unittest.TestCase):
    def check_refused(self, word, move):
        for carry, _, _ in KINDS:
            for family in ([], [[]], [[index] for index in range(len(word))]):
                before = deepcopy((word, family))
                with self.assertRaises(WrongMove, msg=(word, move)):
                    carry(word, move, family)
                self.assertEqual((word, family), before)

    def test_moves_that_are_not_allowed(self):
        for word in small_words((0, 1, 2), 4):
            for move in product(range(-3, len(word) + 2), ("left", "right")):
                if move not in allowed_moves(word):
                    self.check_refused(word, move)

    def test_the_edges_of_a_word(self):
        for word in ([2, 1, 3, 2, 1, 3], [1, 3, 2, 1, 3, 2]):
            for index in (-BIG, -7, -6, -4, -3, -2, -1, 4, 5, 6, BIG):
                for side in ("left", "right"):
                    self.check_refused(word, (index, side))

    def test_another_word_as_the_side(self):
        for side in ("", "Left", "RIGHT", "up", "left ", "r"):
            for word in ([2, 1, 3], [1, 3, 2]):
                self.check_refused(word, (0, side))


if __name__ == "__main__":
    unittest.main()
