"""Point 18: turning words and families."""

import unittest
from copy import deepcopy
from itertools import permutations
from random import Random

from coverpapers.covers import falling_paper, rises, rising_paper
from coverpapers.errors import OutOfRange
from coverpapers.families import is_falling_family, is_rising_family, judge
from coverpapers.moves import allowed_moves, make_move
from coverpapers.pairs import table_of, word_of
from coverpapers.tables import shape_of
from coverpapers.turning import turn, turn_family
from tests.examples import (
    BIG,
    SMALL_TABLES,
    different_words,
    has_its_own_lists,
    lists_in,
    long_words,
    records,
    small_words,
)
from tests.test_families import families_of, may_fall, may_rise

WORDS = [*small_words((-1, 0, 2), 5), *different_words(Random(61)), *long_words()]


def bounds_of(word):
    """Choose bounds: the least and the greatest letter, and wider ones."""
    least, greatest = min(word, default=3), max(word, default=-3)
    return [(least, greatest), (least - 1, greatest), (least, greatest + 5), (least - BIG, greatest + 2)]


class TurnTest(unittest.TestCase):
    def test_some_words(self):
        self.assertEqual(turn([2, 3, 1, 2], least=1, greatest=3), [2, 3, 1, 2])
        self.assertEqual(turn([1, 1, 2, 4], least=1, greatest=4), [1, 3, 4, 4])
        self.assertEqual(turn([1, 1, 2, 4], least=0, greatest=9), [5, 7, 8, 8])
        self.assertEqual(turn([-BIG, 0], least=-BIG, greatest=BIG), [0, BIG])
        self.assertEqual(turn([5], least=5, greatest=5), [5])
        self.assertEqual(turn([-2, -4], least=-5, greatest=-2), [-3, -5])

    def test_each_letter(self):
        for word in WORDS:
            for least, greatest in bounds_of(word):
                turned = turn(word, least=least, greatest=greatest)
                self.assertIs(type(turned), list)
                self.assertEqual(len(turned), len(word))
                for k, letter in enumerate(word):
                    self.assertEqual(turned[-1 - k] + letter, least + greatest)

    def test_turning_twice_gives_the_word_back(self):
        for word in WORDS:
            for least, greatest in bounds_of(word):
                turned = turn(word, least=least, greatest=greatest)
                self.assertEqual(turn(turned, least=least, greatest=greatest), word)

    def test_the_rises_stay_the_same(self):
        for word in WORDS:
            for least, greatest in bounds_of(word):
                self.assertEqual(rises(turn(word, least=least, greatest=greatest)), rises(word))

    def test_any_two_integers_are_bounds_of_the_empty_word(self):
        for least, greatest in ((0, 0), (1, 5), (5, 1), (-BIG, BIG), (BIG, -BIG)):
            turned = turn([], least=least, greatest=greatest)
            self.assertEqual(turned, [])
            self.assertIs(type(turned), list)

    def test_a_letter_that_is_not_between_the_bounds(self):
        for word, least, greatest in (
            ([2, 3, 1, 2], 2, 3),
            ([2, 3, 1, 2], 1, 2),
            ([1], 2, 3),
            ([4], 2, 3),
            ([2, 2, 2, 1], 2, 2),
            ([3, 2, 2, 2], 2, 2),
            ([2], 3, 1),
            ([2], 2, 1),
            ([2], 3, 2),
            ([BIG], 0, BIG - 1),
            ([-BIG], 1 - BIG, 0),
            ([0], 1, -1),
        ):
            before = list(word)
            with self.assertRaises(OutOfRange, msg=(word, least, greatest)):
                turn(word, least=least, greatest=greatest)
            self.assertEqual(word, before)

    def test_one_letter_too_low_or_too_high_anywhere(self):
        for word in long_words():
            least, greatest = min(word), max(word)
            for wrong in (least - 1, greatest + 1):
                for place in (0, len(word) // 2, len(word)):
                    with self.assertRaises(OutOfRange):
                        turn([*word[:place], wrong, *word[place:]], least=least, greatest=greatest)

    def test_the_bounds_are_passed_by_keyword(self):
        with self.assertRaises(TypeError):
            turn([1], 1, 1)

    def test_the_word_stays_as_it_is(self):
        word = [2, 3, 1, 2]
        turned = turn(word, least=0, greatest=3)
        self.assertEqual(word, [2, 3, 1, 2])
        turned.append(7)
        self.assertEqual(turn(word, least=0, greatest=3), [1, 2, 0, 1])

    def test_turned_words_of_words_that_a_path_joins_have_one_table(self):
        for table in SMALL_TABLES:
            words = [word_of(table, record) for record in records(shape_of(table))]
            tables = [table_of(turn(word, least=-1, greatest=3)) for word in words]
            self.assertEqual(tables, tables[:1] * len(tables), table)
        for word in WORDS:
            for least, greatest in bounds_of(word)[:1]:
                table = table_of(turn(word, least=least, greatest=greatest))
                for move in allowed_moves(word):
                    after = turn(make_move(word, move), least=least, greatest=greatest)
                    self.assertEqual(table_of(after), table, (word, move))

    def test_turned_words_of_words_that_no_path_joins_have_other_tables(self):
        words = [list(word) for word in sorted(set(permutations((0, 0, 1, 2, 3))))]
        told = {(table_of(word), table_of(turn(word, least=0, greatest=3))) for word in words}
        self.assertEqual(len({table for table, _ in told}), len(told))
        self.assertEqual(len({turned for _, turned in told}), len(told))


class TurnFamilyTest(unittest.TestCase):
    def check(self, word, family, is_family):
        before = deepcopy((word, family))
        turned = turn_family(word, family)
        self.assertEqual((word, family), before)
        n = len(word)
        self.assertEqual(turned, [sorted(n - 1 - index for index in indexes) for indexes in family])
        for least, greatest in bounds_of(word):
            self.assertTrue(is_family(turn(word, least=least, greatest=greatest), turned), (word, family))
        self.assertTrue(has_its_own_lists(turned, word, family))
        self.assertEqual({type(value) for value in (turned, *turned)}, {list})
        self.assertEqual(turn_family(word, turned), family)

    def test_some_families(self):
        self.assertEqual(turn_family([2, 3, 1, 2], [[0, 1], [3]]), [[2, 3], [0]])
        self.assertEqual(turn_family([2, 3, 1, 2], [[], [0, 3], []]), [[], [0, 3], []])
        self.assertEqual(turn_family([3, 2, 1], [[0, 1]]), [[1, 2]])

    def test_all_families_of_small_words(self):
        for word in small_words((0, 1, 2), 4):
            for count in range(3):
                for family in families_of(word, count, may_rise):
                    self.check(word, family, is_rising_family)
                for family in families_of(word, count, may_fall):
                    self.check(word, family, is_falling_family)

    def test_the_families_of_papers(self):
        for word in [*different_words(Random(62)), *long_words()]:
            for count in (0, 1, 3, len(word) + 1):
                for rising, falling in (rising_paper(word, count), falling_paper(word, count)):
                    self.check(word, rising, is_rising_family)
                    self.check(word, falling, is_falling_family)
                    turned = turn(word, least=min(word), greatest=max(word))
                    self.assertTrue(judge(turned, turn_family(word, rising), turn_family(word, falling)))

    def test_no_lists_and_empty_lists(self):
        for word in ([], [4], [1, 2]):
            self.check(word, [], is_rising_family)
            self.check(word, [[]], is_falling_family)
            self.check(word, [[], [], []], is_rising_family)

    def test_each_call_returns_lists_of_its_own(self):
        family = [[], [0, 1], []]
        first = turn_family([1, 2], family)
        for indexes in lists_in(first):
            indexes.append(5)
        self.assertEqual(family, [[], [0, 1], []])
        self.assertEqual(turn_family([1, 2], family), [[], [0, 1], []])


if __name__ == "__main__":
    unittest.main()
