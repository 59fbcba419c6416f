"""Points 1, 4 and 5: families, covers, and the judge of papers."""

import unittest
from itertools import product

from coverpapers.families import cover, is_falling_family, is_rising_family, judge

BIG = 10 ** 40


def families_of(word, count, fits):
    """Make each family of so many lists whose neighboring letters fit."""
    for places in product(range(count + 1), repeat=len(word)):
        family = [[index for index in range(len(word)) if places[index] == k] for k in range(count)]
        if all(fits(word[i], word[j]) for indexes in family for i, j in zip(indexes, indexes[1:])):
            yield family


def best_family(word, count, fits):
    """Find a family of the greatest cover by trying all of them."""
    return max(families_of(word, count, fits), key=lambda family: sum(len(indexes) for indexes in family))


def may_rise(left, right):
    return left <= right


def may_fall(left, right):
    return left > right


class RisingFamilyTest(unittest.TestCase):
    def test_good_families(self):
        word = [2, 3, 1, 2]
        for family in ([[0, 1]], [[0, 1], [2, 3]], [[2, 3], [0, 1]], [[0, 3], [1]], [[3]], [[0], [1], [2], [3]]):
            self.assertIs(is_rising_family(word, family), True, family)

    def test_letters_that_decrease(self):
        word = [2, 3, 1, 2]
        for family in ([[0, 2]], [[1, 3]], [[0, 1, 3]], [[0, 1, 2]], [[0, 3], [1, 2]], [[1, 2], [0, 3]]):
            self.assertIs(is_rising_family(word, family), False, family)

    def test_equal_letters_may_stand_in_one_list(self):
        self.assertIs(is_rising_family([5, 5, 5], [[0, 1, 2]]), True)
        self.assertIs(is_rising_family([-1, 0, 0, 7], [[0, 1, 2, 3]]), True)

    def test_big_and_negative_letters(self):
        self.assertIs(is_rising_family([-BIG, 0, BIG, BIG + 1], [[0, 1, 2, 3]]), True)
        self.assertIs(is_rising_family([BIG + 1, BIG], [[0, 1]]), False)
        self.assertIs(is_rising_family([-BIG, -BIG - 1], [[0, 1]]), False)


class FallingFamilyTest(unittest.TestCase):
    def test_good_families(self):
        word = [2, 3, 1, 2]
        for family in ([[0, 2]], [[0, 2], [1, 3]], [[1, 3], [0, 2]], [[1, 2]], [[3]], [[0], [1], [2], [3]]):
            self.assertIs(is_falling_family(word, family), True, family)

    def test_letters_that_do_not_decrease(self):
        word = [2, 3, 1, 2]
        for family in ([[0, 1]], [[2, 3]], [[0, 2, 3]], [[1, 2], [0, 3]], [[0, 3], [1, 2]]):
            self.assertIs(is_falling_family(word, family), False, family)

    def test_equal_letters_may_not_stand_in_one_list(self):
        self.assertIs(is_falling_family([5, 5], [[0, 1]]), False)
        self.assertIs(is_falling_family([7, 5, 5, 1], [[0, 1, 2, 3]]), False)
        self.assertIs(is_falling_family([5, 5], [[0], [1]]), True)

    def test_big_and_negative_letters(self):
        self.assertIs(is_falling_family([BIG + 1, BIG, 0, -BIG], [[0, 1, 2, 3]]), True)
        self.assertIs(is_falling_family([BIG, BIG + 1], [[0, 1]]), False)
        self.assertIs(is_falling_family([-BIG - 1, -BIG], [[0, 1]]), False)


class EitherFamilyTest(unittest.TestCase):
    """What both kinds have in common. The letters of the words don't matter for it."""

    def assert_both(self, word, family, expected):
        self.assertIs(is_rising_family(word, family), expected, ("rising", word, family))
        self.assertIs(is_falling_family(word, family), expected, ("falling", word, family))

    def assert_kinds_refuse(self, family):
        rising = [1, 2, 3, 4]
        falling = [4, 3, 2, 1]
        self.assertIs(is_rising_family(rising, family), False, family)
        self.assertIs(is_falling_family(falling, family), False, family)

    def test_lists_that_are_not_ascending(self):
        self.assert_kinds_refuse([[1, 0]])
        self.assert_kinds_refuse([[0, 2, 1]])
        self.assert_kinds_refuse([[0, 1], [3, 2]])
        # read backwards, the letters of these would fit
        self.assertIs(is_rising_family([2, 1], [[1, 0]]), False)
        self.assertIs(is_falling_family([1, 2], [[1, 0]]), False)

    def test_an_index_twice_in_one_list(self):
        self.assert_kinds_refuse([[0, 0]])
        self.assert_kinds_refuse([[0, 1, 1]])
        self.assert_kinds_refuse([[0, 1, 0]])

    def test_an_index_twice_in_two_lists(self):
        self.assert_kinds_refuse([[0], [0]])
        self.assert_kinds_refuse([[0, 1], [1, 2]])
        self.assert_kinds_refuse([[3], [], [1, 3]])

    def test_an_index_below_0(self):
        self.assert_kinds_refuse([[-1]])
        self.assert_kinds_refuse([[-1, 0]])
        self.assert_kinds_refuse([[-4]])
        self.assert_kinds_refuse([[-5]])
        self.assert_kinds_refuse([[0], [-1]])
        self.assert_kinds_refuse([[-BIG]])
        self.assert_both([], [[-1]], False)

    def test_an_index_equal_to_the_length_and_beyond(self):
        self.assert_kinds_refuse([[4]])
        self.assert_kinds_refuse([[0, 4]])
        self.assert_kinds_refuse([[5]])
        self.assert_kinds_refuse([[0], [1, 4]])
        self.assert_kinds_refuse([[BIG]])
        self.assert_both([], [[0]], False)
        self.assert_both([7], [[1]], False)

    def test_the_last_index(self):
        self.assert_both([7], [[0]], True)
        self.assert_both([1, 2, 3, 4], [[3]], True)

    def test_the_empty_family(self):
        self.assert_both([], [], True)
        self.assert_both([3, 1, 2], [], True)

    def test_empty_lists(self):
        self.assert_both([], [[]], True)
        self.assert_both([], [[], [], []], True)
        self.assert_both([3, 1, 2], [[], [0], []], True)

    def test_all_small_families_as_point_4_tells(self):
        lists = [list(indexes) for n in range(4) for indexes in product(range(-1, 4), repeat=n)]
        for word in product(range(2), repeat=3):
            for indexes in lists:
                in_word = all(0 <= index < 3 for index in indexes)
                ascending = all(i < j for i, j in zip(indexes, indexes[1:]))
                good = in_word and ascending
                rises = good and all(word[i] <= word[j] for i, j in zip(indexes, indexes[1:]))
                falls = good and all(word[i] > word[j] for i, j in zip(indexes, indexes[1:]))
                self.assertIs(is_rising_family(list(word), [indexes]), rises, (word, indexes))
                self.assertIs(is_falling_family(list(word), [indexes]), falls, (word, indexes))


class CoverTest(unittest.TestCase):
    def test_families(self):
        self.assertEqual(cover([[0, 1], [2, 3]]), 4)
        self.assertEqual(cover([[0, 2, 5], [], [1]]), 4)

    def test_no_lists_and_empty_lists(self):
        self.assertEqual(cover([]), 0)
        self.assertEqual(cover([[]]), 0)
        self.assertEqual(cover([[], []]), 0)

    def test_lists_that_are_no_family(self):
        self.assertEqual(cover([[0, 0, 0], [0]]), 4)
        self.assertEqual(cover([[5, 3], [-1, BIG]]), 4)


class JudgeTest(unittest.TestCase):
    def test_a_paper(self):
        word = [2, 3, 1, 2]
        self.assertIs(judge(word, [[0, 1]], [[0, 2], [1, 3]]), True)
        self.assertIs(judge(word, [[0, 1], [2, 3]], [[0, 2], [1, 3]]), True)
        self.assertIs(judge(word, [[0, 1], [2, 3]], [[0, 2]]), True)
        self.assertIs(judge([1, 1, 1], [[0, 1, 2]], [[1]]), True)

    def test_a_pair_that_does_not_reach_the_number(self):
        word = [2, 3, 1, 2]
        self.assertIs(judge(word, [[0]], [[0, 2], [1, 3]]), False)
        self.assertIs(judge(word, [[0, 1]], [[0, 2], [1]]), False)
        self.assertIs(judge(word, [[0, 1]], [[0, 2]]), False)
        self.assertIs(judge(word, [[0, 1], [2, 3], []], [[0, 2], [1, 3]]), False)
        self.assertIs(judge(word, [[0, 1]], [[0, 2], [1, 3], []]), False)
        self.assertIs(judge(word, [[]], [[]]), False)

    def test_a_bad_rising_list(self):
        word = [2, 3, 1, 2]
        self.assertIs(judge(word, [[0, 2]], [[0, 2], [1, 3]]), False)
        self.assertIs(judge(word, [[1, 0]], [[0, 2], [1, 3]]), False)
        self.assertIs(judge(word, [[0, 0]], [[0, 2], [1, 3]]), False)
        self.assertIs(judge(word, [[1, 4]], [[0, 2], [1, 3]]), False)
        self.assertIs(judge(word, [[-1, 1]], [[0, 2], [1, 3]]), False)
        self.assertIs(judge(word, [[0, 1], [0, 1]], [[0, 2], [1, 3]]), False)

    def test_a_bad_falling_list(self):
        word = [2, 3, 1, 2]
        self.assertIs(judge(word, [[0, 1]], [[0, 1], [2, 3]]), False)
        self.assertIs(judge(word, [[0, 1]], [[2, 0], [1, 3]]), False)
        self.assertIs(judge(word, [[0, 1]], [[0, 2], [1, 1]]), False)
        self.assertIs(judge(word, [[0, 1]], [[0, 2], [1, 4]]), False)
        self.assertIs(judge(word, [[0, 1]], [[0, 2], [-1, 1]]), False)
        self.assertIs(judge(word, [[0, 1]], [[0, 2], [0, 2]]), False)
        self.assertIs(judge([5, 5], [[0, 1]], [[0, 1]]), False)

    def test_the_two_families_are_not_exchanged(self):
        word = [2, 3, 1, 2]
        self.assertIs(judge(word, [[0, 2], [1, 3]], [[0, 1]]), False)

    def test_no_rising_list(self):
        word = [2, 3, 1, 2]
        self.assertIs(judge(word, [], [[0, 2], [1, 3]]), True)
        self.assertIs(judge(word, [], [[0, 2], [1, 3], []]), True)
        self.assertIs(judge(word, [], [[0], [1], [2], [3]]), True)
        self.assertIs(judge(word, [], [[0, 2], [1]]), False)
        self.assertIs(judge(word, [], [[0, 2]]), False)

    def test_no_falling_list(self):
        word = [2, 3, 1, 2]
        self.assertIs(judge(word, [[0, 1], [2, 3]], []), True)
        self.assertIs(judge(word, [[0, 1], [], [2, 3]], []), True)
        self.assertIs(judge(word, [[0, 1], [2]], []), False)

    def test_no_list_at_all(self):
        self.assertIs(judge([], [], []), True)
        self.assertIs(judge([4], [], []), False)

    def test_the_empty_word(self):
        self.assertIs(judge([], [[]], []), True)
        self.assertIs(judge([], [[], []], []), True)
        self.assertIs(judge([], [], [[]]), True)
        self.assertIs(judge([], [[]], [[]]), False)
        self.assertIs(judge([], [[0]], []), False)
        self.assertIs(judge([], [[0]], [[0]]), False)

    def test_the_word_of_one_letter(self):
        self.assertIs(judge([BIG], [[0]], [[0]]), True)
        self.assertIs(judge([BIG], [[0]], [[]]), False)
        self.assertIs(judge([BIG], [[]], [[0]]), False)
        self.assertIs(judge([BIG], [[0], []], [[0]]), False)

    def test_small_words_have_papers_of_greatest_covers_alone(self):
        for n in range(4):
            for word in product(range(3), repeat=n):
                self.check_small_word(list(word))

    def check_small_word(self, word):
        counts = range(len(word) + 1)
        rising = [best_family(word, k, may_rise) for k in counts]
        falling = [best_family(word, m, may_fall) for m in counts]
        taken = [[judge(word, rising[k], falling[m]) for m in counts] for k in counts]
        for k in counts:
            self.assertIn(True, taken[k], (word, k))
            self.assertIn(True, [row[k] for row in taken], (word, k))
            for lesser in families_of(word, k, may_rise):
                if cover(lesser) < cover(rising[k]):
                    for m in counts:
                        self.assertIs(judge(word, lesser, falling[m]), False, (word, lesser, falling[m]))
            for lesser in families_of(word, k, may_fall):
                if cover(lesser) < cover(falling[k]):
                    for m in counts:
                        self.assertIs(judge(word, rising[m], lesser), False, (word, rising[m], lesser))


class ArgumentsTest(unittest.TestCase):
    """Point 3: the arguments stay as they are."""

    def test_the_arguments_stay_as_they_are(self):
        for word, rising, falling in (
            ([2, 3, 1, 2], [[0, 1], [2, 3]], [[0, 2], [1, 3]]),
            ([2, 3, 1, 2], [[3, 0], [2, 2], [-1]], [[4], []]),
        ):
            letters = list(word)
            families = ([list(indexes) for indexes in rising], [list(indexes) for indexes in falling])
            is_rising_family(word, rising)
            is_falling_family(word, falling)
            cover(rising)
            judge(word, rising, falling)
            self.assertEqual(word, letters)
            self.assertEqual((rising, falling), families)


if __name__ == "__main__":
    unittest.main()
