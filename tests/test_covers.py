"""Points 2, 4, 5, 6, 7 and 16: greatest covers, their papers, longest lists, and parting a word into lists."""

import unittest
from copy import deepcopy
from random import Random

from coverpapers.covers import (
    falling_paper,
    falls,
    greatest_falling,
    greatest_rising,
    longest_falling,
    longest_rising,
    part_falling,
    part_rising,
    rises,
    rising_paper,
)
from coverpapers.errors import OutOfRange
from coverpapers.families import cover, is_falling_family, is_rising_family, judge
from coverpapers.pairs import table_of
from coverpapers.tables import conjugate, shape_of
from tests.examples import (
    BIG,
    different_words,
    greatest_cover,
    growths,
    has_its_own_lists,
    lists_in,
    long_words,
    small_words,
)
from tests.test_families import best_family, may_fall, may_rise

SMALL_WORDS = [*small_words((0, 1, 2), 5), *small_words((-1, 0, 1, 2), 4)]
WORDS = [*SMALL_WORDS, *different_words(Random(21)), *long_words()]


def some_counts(word):
    """Choose numbers of lists: all of a small word, some of a long one."""
    n = len(word)
    return range(n + 4) if n < 12 else (0, 1, 2, 3, 5, n - 1, n, n + 1, n + 5)


class RisesTest(unittest.TestCase):
    def test_the_example_of_the_document(self):
        self.assertEqual(rises([2, 3, 1, 2]), (2, 2))

    def test_some_words(self):
        self.assertEqual((rises([1, 2, 3]), falls([1, 2, 3])), ((3,), (1, 1, 1)))
        self.assertEqual((rises([3, 2, 1]), falls([3, 2, 1])), ((1, 1, 1), (3,)))
        self.assertEqual((rises([4, 4]), falls([4, 4])), ((2,), (1, 1)))
        self.assertEqual((rises([3, 1, 2, 2]), falls([3, 1, 2, 2])), ((3, 1), (2, 1, 1)))
        self.assertEqual((rises([BIG, -BIG, BIG]), falls([BIG, -BIG, BIG])), ((2, 1), (2, 1)))

    def test_the_empty_word(self):
        self.assertEqual((rises([]), falls([])), ((), ()))

    def test_they_are_the_growths_of_the_greatest_covers(self):
        for word in SMALL_WORDS:
            self.assertEqual(rises(word), growths(word, may_rise), word)
            self.assertEqual(falls(word), growths(word, may_fall), word)

    def test_they_are_tuples_that_do_not_increase_and_add_up(self):
        for word in WORDS:
            for numbers in (rises(word), falls(word)):
                self.assertIs(type(numbers), tuple)
                self.assertEqual(list(numbers), sorted(numbers, reverse=True))
                self.assertEqual(sum(numbers), len(word))
                self.assertNotIn(0, numbers)

    def test_they_are_the_conjugates_of_one_another(self):
        for word in WORDS:
            self.assertEqual(falls(word), conjugate(rises(word)))
            self.assertEqual(rises(word), conjugate(falls(word)))
            for i, number in enumerate(falls(word)):
                self.assertEqual(number, len([length for length in rises(word) if length > i]))

    def test_the_rises_are_the_shape_of_the_table(self):
        for word in WORDS:
            self.assertEqual(rises(word), shape_of(table_of(word)))


class GreatestTest(unittest.TestCase):
    def test_all_families_of_the_smallest_words(self):
        for word in small_words((0, 1, 2), 3):
            for count in range(len(word) + 2):
                self.assertEqual(greatest_rising(word, count), cover(best_family(word, count, may_rise)))
                self.assertEqual(greatest_falling(word, count), cover(best_family(word, count, may_fall)))

    def test_all_families_of_small_words(self):
        for word in SMALL_WORDS:
            for count in range(len(word) + 2):
                self.assertEqual(greatest_rising(word, count), greatest_cover(word, count, may_rise), word)
                self.assertEqual(greatest_falling(word, count), greatest_cover(word, count, may_fall), word)

    def test_some_words(self):
        self.assertEqual([greatest_rising([3, 1, 2, 2], count) for count in range(4)], [0, 3, 4, 4])
        self.assertEqual([greatest_falling([3, 1, 2, 2], count) for count in range(5)], [0, 2, 3, 4, 4])

    def test_the_empty_word_and_large_numbers(self):
        for count in (0, 1, 10 ** 4, BIG):
            self.assertEqual((greatest_rising([], count), greatest_falling([], count)), (0, 0))
        self.assertEqual((greatest_rising([2, 1], BIG), greatest_falling([1, 1], BIG)), (2, 2))

    def test_below_0(self):
        for word in ([], [5], [2, 3, 1, 2]):
            for count in (-1, -2, -4, -BIG):
                for told in (greatest_rising, greatest_falling, rising_paper, falling_paper):
                    before = list(word)
                    with self.assertRaises(OutOfRange, msg=(word, count, told)):
                        told(word, count)
                    self.assertEqual(word, before)


class PaperTest(unittest.TestCase):
    def check_form(self, word, paper):
        self.assertIs(type(paper), tuple)
        self.assertEqual(len(paper), 2)
        for family in paper:
            self.assertIs(type(family), list)
            self.assertEqual({type(indexes) for indexes in family} - {list}, set())
        self.assertTrue(has_its_own_lists(paper, word))

    def check(self, word, count):
        before = list(word)
        paper = rising_paper(word, count)
        self.check_form(word, paper)
        self.assertIs(judge(word, *paper), True, (word, count, paper))
        self.assertEqual(len(paper[0]), count)
        self.assertLessEqual(len(paper[1]), len(word))
        self.assertEqual(cover(paper[0]), greatest_rising(word, count), (word, count))
        paper = falling_paper(word, count)
        self.check_form(word, paper)
        self.assertIs(judge(word, *paper), True, (word, count, paper))
        self.assertEqual(len(paper[1]), count)
        self.assertLessEqual(len(paper[0]), len(word))
        self.assertEqual(cover(paper[1]), greatest_falling(word, count), (word, count))
        self.assertEqual(word, before)

    def test_each_number_of_lists(self):
        for word in WORDS:
            for count in some_counts(word):
                self.check(word, count)

    def test_ten_thousand_lists(self):
        for word in ([], [7], [2, 3, 1, 2], [BIG, -BIG, 0, 0], *long_words()):
            self.check(word, 10 ** 4)

    def test_the_empty_word(self):
        self.assertEqual(rising_paper([], 0), ([], []))
        self.assertEqual(falling_paper([], 0), ([], []))
        self.assertEqual(rising_paper([], 2), ([[], []], []))
        self.assertEqual(falling_paper([], 2), ([], [[], []]))

    def test_each_call_returns_lists_of_its_own(self):
        for word in ([], [2, 3, 1, 2]):
            for paper_of in (rising_paper, falling_paper):
                for count in range(6):
                    first = paper_of(word, count)
                    expected = deepcopy(first)
                    for indexes in lists_in(first):
                        indexes.append(17)
                    self.assertEqual(paper_of(word, count), expected)


class SpoiltPaperTest(unittest.TestCase):
    """Point 5: the judge takes papers, and takes none that is spoilt."""

    def test_an_index_too_few(self):
        for word in SMALL_WORDS:
            for count in range(len(word) + 1):
                for paper in (rising_paper(word, count), falling_paper(word, count)):
                    for indexes in [part for family in paper for part in family]:
                        for _ in range(len(indexes)):
                            taken = indexes.pop(0)
                            self.assertIs(judge(word, *paper), False, (word, paper))
                            indexes.append(taken)

    def test_an_index_too_many(self):
        for word in SMALL_WORDS:
            for count in range(len(word) + 1):
                for paper in (rising_paper(word, count), falling_paper(word, count)):
                    for indexes in [part for family in paper for part in family]:
                        whole = list(indexes)
                        for index in range(-1, len(word) + 1):
                            indexes[:] = sorted([*whole, index])
                            self.assertIs(judge(word, *paper), False, (word, paper))
                        indexes[:] = whole

    def test_a_list_too_many(self):
        # one more list of a kind needs as many indexes more as there are lists of the other kind
        for word in SMALL_WORDS:
            rising, falling = rising_paper(word, 2)
            self.assertIs(judge(word, rising, [*falling, []]), False, word)
            self.assertIs(judge(word, [*rising, []], falling), len(falling) == 0, word)

    def test_the_arguments_stay_as_they_are(self):
        for word in ([], [2, 3, 1, 2], [3, 1, 2, 2]):
            for count in range(4):
                rising, falling = rising_paper(word, count)
                before = deepcopy((word, rising, falling))
                judge(word, rising, falling)
                judge(word, falling, rising)
                self.assertEqual((word, rising, falling), before)


class LongestTest(unittest.TestCase):
    def test_they_are_such_lists_and_none_is_longer(self):
        for word in WORDS:
            rising = longest_rising(word)
            falling = longest_falling(word)
            self.assertTrue(is_rising_family(word, [rising]), word)
            self.assertTrue(is_falling_family(word, [falling]), word)
            self.assertEqual(len(rising), max(rises(word), default=0), word)
            self.assertEqual(len(falling), max(falls(word), default=0), word)

    def test_small_words_by_trying_all_lists(self):
        for word in SMALL_WORDS:
            self.assertEqual(len(longest_rising(word)), greatest_cover(word, 1, may_rise))
            self.assertEqual(len(longest_falling(word)), greatest_cover(word, 1, may_fall))

    def test_some_words(self):
        self.assertEqual(longest_rising([2, 3, 1, 4]), [0, 1, 3])
        self.assertEqual(longest_falling([5, 3, 7, -BIG]), [0, 1, 3])
        self.assertEqual(longest_rising([1, 1, 1]), [0, 1, 2])
        self.assertEqual(len(longest_falling([1, 1, 1])), 1)

    def test_the_empty_word(self):
        self.assertEqual((longest_rising([]), longest_falling([])), ([], []))

    def test_lists_of_their_own(self):
        for word in ([], [0, 1, 0]):
            for longest in (longest_rising, longest_falling):
                before = list(word)
                first = longest(word)
                self.assertIs(type(first), list)
                expected = list(first)
                first.append(9)
                self.assertEqual(longest(word), expected)
                self.assertEqual(word, before)


class PartTest(unittest.TestCase):
    def check(self, word, parted, is_family, is_other_family, fewest):
        self.assertIs(type(parted), tuple)
        family, longest = parted
        self.assertTrue(is_family(word, family), (word, parted))
        self.assertEqual(sorted(index for indexes in family for index in indexes), list(range(len(word))))
        self.assertNotIn([], family)
        self.assertTrue(is_other_family(word, [longest]), (word, parted))
        self.assertEqual(len(longest), len(family), (word, parted))
        self.assertEqual(len(family), fewest, word)
        self.assertTrue(has_its_own_lists(parted, word), word)

    def test_all_letters_are_covered_by_the_fewest_lists(self):
        for word in WORDS:
            before = list(word)
            self.check(word, part_rising(word), is_rising_family, is_falling_family, len(rises(word)))
            self.check(word, part_falling(word), is_falling_family, is_rising_family, len(falls(word)))
            self.assertEqual(word, before)

    def test_fewer_lists_do_not_cover_all_letters(self):
        for word in SMALL_WORDS:
            if len(word) > 0:
                fewer = len(part_rising(word)[0]) - 1
                self.assertLess(greatest_cover(word, fewer, may_rise), len(word))
                fewer = len(part_falling(word)[0]) - 1
                self.assertLess(greatest_cover(word, fewer, may_fall), len(word))

    def test_the_empty_word(self):
        self.assertEqual(part_rising([]), ([], []))
        self.assertEqual(part_falling([]), ([], []))

    def test_one_letter(self):
        self.assertEqual(part_rising([BIG]), ([[0]], [0]))
        self.assertEqual(part_falling([-BIG]), ([[0]], [0]))


if __name__ == "__main__":
    unittest.main()
