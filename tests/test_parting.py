"""Points 2, 10 and 11: notes that part two words, and the judge of notes."""

import unittest
from copy import deepcopy
from itertools import permutations, product
from random import Random

from coverpapers.covers import falling_paper, rising_paper
from coverpapers.errors import NotRelated, Related
from coverpapers.families import cover, is_rising_family, judge
from coverpapers.moves import allowed_moves, make_move
from coverpapers.pairs import table_of
from coverpapers.parting import judge_note, note
from coverpapers.paths import path_between
from tests.examples import BIG, different_words, greatest_cover, has_its_own_lists, long_words, small_words
from tests.test_families import families_of, may_rise

# Words with equal contents that are not related, of three letters and more.
FIRST = [3, 1, 2, 9, 0, 3]
SECOND = [0, 3, 2, 9, 1, 3]


def two_orders():
    """Make each two words of the same few letters."""
    for content in ((), (0,), (0, 1), (0, 0, 1), (0, 1, 2), (0, 0, 1, 1), (0, 0, 1, 2), (0, 1, 2, 3), (0, 0, 1, 1, 2)):
        words = [list(word) for word in sorted(set(permutations(content)))]
        yield from product(words, repeat=2)


def a_path_joins(first, second):
    try:
        path_between(first, second)
    except NotRelated:
        return False
    return True


def up_to(word, bound):
    return [letter for letter in word if letter <= bound]


class NoteTest(unittest.TestCase):
    def check_related(self, first, second):
        before = deepcopy((first, second))
        with self.assertRaises(Related, msg=before):
            note(first, second)
        self.assertEqual((first, second), before)

    def check_cover(self, first, second):
        """Check each item of the note as point 11 tells it."""
        before = deepcopy((first, second))
        told = note(first, second)
        self.assertEqual((first, second), before)
        self.assertIs(type(told), tuple)
        self.assertEqual((len(told), told[0]), (5, "cover"))
        _, greatest, family, paper, swapped = told
        self.assertEqual([type(item) for item in told[1:]], [int, list, tuple, bool])
        self.assertEqual([type(part) for part in paper], [list, list])
        self.assertTrue(has_its_own_lists(told, first, second))
        one, other = (second, first) if swapped else (first, second)
        one, other = up_to(one, greatest), up_to(other, greatest)
        self.assertTrue(is_rising_family(one, family), told)
        self.assertTrue(judge(other, *paper), told)
        self.assertEqual(len(family), len(paper[0]), told)
        self.assertGreater(cover(family), cover(paper[0]), told)
        self.assertIs(judge_note(first, second, told), True, told)
        return told

    def check(self, first, second):
        if sorted(first) != sorted(second):
            self.assertEqual(note(first, second), ("content",), (first, second))
            self.assertIs(judge_note(first, second, ("content",)), True)
        elif a_path_joins(first, second):
            self.check_related(first, second)
        else:
            self.check_cover(first, second)

    def test_each_two_small_words(self):
        words = list(small_words((0, 1, 2), 3)) + list(small_words((0, 1), 4))
        for first, second in product(words, repeat=2):
            self.check(first, second)

    def test_each_two_orders_of_some_letters(self):
        for first, second in two_orders():
            self.check(first, second)

    def test_both_values_of_the_last_item_occur(self):
        parted = [(first, second) for first, second in two_orders() if not related(first, second)]
        found = {(first < second, note(first, second)[4]) for first, second in parted}
        self.assertEqual(found, {(False, False), (False, True), (True, False), (True, True)})

    def test_the_other_order_of_the_words_changes_the_last_item(self):
        self.assertIs(note([1, 2], [2, 1])[4], False)
        self.assertIs(note([2, 1], [1, 2])[4], True)

    def test_the_greater_cover_is_the_one_of_the_first_of_the_remaining_words(self):
        for first, second in two_orders():
            if not related(first, second):
                _, greatest, family, paper, swapped = note(first, second)
                one, other = (second, first) if swapped else (first, second)
                count = len(family)
                most = greatest_cover(up_to(one, greatest), count, may_rise)
                self.assertLessEqual(cover(family), most)
                self.assertGreater(most, greatest_cover(up_to(other, greatest), count, may_rise))

    def test_letters_have_to_be_left_out(self):
        # the rises of the whole words are equal
        told = self.check_cover([2, 1, 3], [3, 1, 2])
        self.assertEqual(told[1], 2)

    def test_long_words(self):
        source = Random(41)
        for word in [*different_words(source), *long_words()]:
            shuffled = list(word)
            source.shuffle(shuffled)
            for other in (word[::-1], sorted(word), shuffled):
                if table_of(word) == table_of(other):
                    self.check_related(word, other)
                else:
                    self.check_cover(word, other)
                    self.check_cover(other, word)
            for move in allowed_moves(word)[:3]:
                self.check_related(word, make_move(word, move))

    def test_a_word_and_itself(self):
        for word in ([], [4], [2, 3, 1, 2], [BIG, -BIG, BIG]):
            self.check_related(word, word)
            self.check_related(word, list(word))

    def test_other_contents(self):
        for first, second in (
            ([], [0]),
            ([1], [2]),
            ([1, 1], [1]),
            ([1, 2, 2], [1, 1, 2]),
            ([2, 1, 3], [2, 1, 4]),
            ([BIG], [BIG + 1]),
            ([0], [0, 0]),
            ([3, 1, 2], [1, 2]),
        ):
            self.assertEqual(note(first, second), ("content",))
            self.assertEqual(note(second, first), ("content",))

    def test_each_call_returns_lists_of_its_own(self):
        told = note(FIRST, SECOND)
        expected = deepcopy(told)
        told[2].clear()
        told[3][0].clear()
        told[3][1].append([7])
        self.assertEqual(note(FIRST, SECOND), expected)


def related(first, second):
    return table_of(first) == table_of(second)


class JudgeNoteTest(unittest.TestCase):
    def check_refused(self, first, second, told):
        before = deepcopy((first, second, told))
        self.assertIs(judge_note(first, second, told), False, before)
        self.assertEqual((first, second, told), before)

    def test_what_note_returns(self):
        for first, second in two_orders():
            if not related(first, second):
                told = note(first, second)
                before = deepcopy((first, second, told))
                self.assertIs(judge_note(first, second, told), True)
                self.assertEqual((first, second, told), before)

    def test_content(self):
        for first, second in (([], [1]), ([1], [2]), ([1, 1], [1]), ([1, 2, 2], [2, 1, 1]), ([BIG], [-BIG])):
            self.assertIs(judge_note(first, second, ("content",)), True)
            self.assertIs(judge_note(second, first, ("content",)), True)
        for first, second in two_orders():
            self.check_refused(first, second, ("content",))

    def test_a_good_note(self):
        good = ("cover", 2, [[0, 1]], ([[0]], [[0, 1]]), False)
        self.assertIs(judge_note([9, 1, 2], [2, 1, 9], good), True)
        self.assertIs(judge_note([1, 9, 2], [2, 9, 1], good), True)
        # any bound from the greatest remaining letter on to below the next one leaves the same letters
        self.assertIs(judge_note([9, 1, 2], [2, 1, 9], ("cover", 8, [[0, 1]], ([[0]], [[0, 1]]), False)), True)
        self.assertIs(judge_note([2, 1, 9], [9, 1, 2], ("cover", 2, [[0, 1]], ([[0]], [[0, 1]]), True)), True)
        # a family need not have the greatest cover
        first, second = [1, 2, 3], [3, 2, 1]
        self.assertIs(judge_note(first, second, ("cover", 3, [[0, 2]], ([[1]], [[0, 1, 2]]), False)), True)

    def test_a_note_of_two_lists(self):
        first, second = [1, 2, 0], [2, 1, 0]
        paper = rising_paper(second, 2)
        self.assertIs(judge_note(first, second, ("cover", 2, [[0, 1], [2]], paper, False)), True)
        self.check_refused(first, second, ("cover", 2, [[0, 1], []], paper, False))
        self.check_refused(first, second, ("cover", 2, [[0], [2]], paper, False))

    def test_another_bound(self):
        first, second = [9, 1, 2], [2, 1, 9]
        for greatest in (1, 0, -BIG):
            self.check_refused(first, second, ("cover", greatest, [[0, 1]], ([[0]], [[0, 1]]), False))
        for greatest in (9, BIG):
            self.check_refused(first, second, ("cover", greatest, [[0, 1]], ([[0]], [[0, 1]]), False))

    def test_the_other_value_of_the_last_item(self):
        for first, second in two_orders():
            if not related(first, second):
                *items, swapped = note(first, second)
                self.check_refused(first, second, (*items, not swapped))
                self.check_refused(second, first, (*items, swapped))
                self.assertIs(judge_note(second, first, (*items, not swapped)), True)

    def test_a_spoilt_family(self):
        first, second = [9, 1, 2], [2, 1, 9]
        paper = ([[0]], [[0, 1]])
        spoilt = [[1, 0], [0, 0], [0, 2], [-1, 0], [0, 1, 1], [0, 1, 2], [-2, -1], [1, 2], [0, BIG], [-BIG, 0]]
        for family in ([indexes] for indexes in spoilt):
            self.check_refused(first, second, ("cover", 2, family, paper, False))
        # of falling letters
        self.check_refused([2, 1], [1, 2], ("cover", 2, [[0, 1]], rising_paper([1, 2], 0), False))
        self.check_refused([2, 1, 1], [2, 1, 1], ("cover", 2, [[0, 1, 2]], rising_paper([2, 1, 1], 1), False))

    def test_each_index_changed_in_a_family(self):
        for first, second in ((FIRST, SECOND), ([1, 2, 3, 0], [3, 2, 1, 0])):
            _, greatest, family, paper, swapped = note(first, second)
            one = up_to(second if swapped else first, greatest)
            for indexes in family:
                for place, index in enumerate(list(indexes)):
                    for other in range(-2, 8):
                        indexes[place] = other
                        good = is_rising_family(one, family)
                        told = ("cover", greatest, family, paper, swapped)
                        self.assertIs(judge_note(first, second, told), good, told)
                    indexes[place] = index

    def test_a_spoilt_paper(self):
        first, second = [9, 1, 2], [2, 1, 9]
        for paper in (
            ([[0]], [[0]]),
            ([[]], [[0, 1]]),
            ([[0]], [[1, 0]]),
            ([[0]], [[0, 2]]),
            ([[0]], [[1, 2]]),
            ([[2]], [[0, 1]]),
            ([[-1]], [[0, 1]]),
            ([[0]], [[0, 1], []]),
            ([[0]], [[0, 1], [0, 1]]),
            ([[0]], []),
            ([[0, 1]], []),
            ([[0, 1]], [[0, 1]]),
        ):
            self.check_refused(first, second, ("cover", 2, [[0, 1]], paper, False))
        # the paper of the other one of the words, and of the whole word
        self.check_refused(first, second, ("cover", 2, [[0, 1]], rising_paper([1, 2], 1), False))
        self.check_refused(first, second, ("cover", 2, [[0, 1]], rising_paper(second, 1), False))

    def test_each_list_spoilt_in_the_paper(self):
        told = note(FIRST, SECOND)
        for family in told[3]:
            for indexes in family:
                for index in list(indexes):
                    indexes.remove(index)
                    self.check_refused(FIRST, SECOND, told)
                    indexes[:] = sorted([*indexes, index, index])
                    self.check_refused(FIRST, SECOND, told)
                    indexes.remove(index)
        self.assertIs(judge_note(FIRST, SECOND, told), True)

    def test_another_number_of_lists_than_the_paper_has_rising_ones(self):
        first, second = [1, 2], [2, 1]
        paper = ([[0]], [[0, 1]])
        self.assertIs(judge_note(first, second, ("cover", 2, [[0, 1]], paper, False)), True)
        for family in ([[0, 1], []], [[], [0, 1]], [[0], [1]], [[], [], [0, 1]]):
            self.check_refused(first, second, ("cover", 2, family, paper, False))
        # fewer lists that cover more
        first, second = [1, 2, 3, 4], [4, 3, 2, 1]
        self.check_refused(first, second, ("cover", 4, [[0, 1, 2, 3]], rising_paper(second, 2), False))
        self.assertIs(judge_note(first, second, ("cover", 4, [[0, 1, 2, 3], []], rising_paper(second, 2), False)), True)

    def test_a_cover_that_is_not_greater(self):
        first, second = [1, 2, 3, 4], [4, 3, 2, 1]
        for family in ([[]], [[0]], [[3]]):
            self.check_refused(first, second, ("cover", 4, family, rising_paper(second, 1), False))
        for family in ([[0], [1]], [[0, 1], []], [[], []], [[2], []]):
            self.check_refused(first, second, ("cover", 4, family, rising_paper(second, 2), False))
        self.check_refused(first, second, ("cover", 4, [], rising_paper(second, 0), False))
        self.check_refused(first, second, ("cover", 0, [[]], rising_paper([], 1), False))

    def test_an_indexing_of_the_whole_words(self):
        first, second = [9, 1, 2], [9, 2, 1]
        self.check_refused(first, second, ("cover", 2, [[1, 2]], ([[0]], [[0, 1]]), False))
        self.check_refused(first, second, ("cover", 2, [[0, 1]], ([[1]], [[1, 2]]), False))
        self.check_refused(first, second, ("cover", 2, [[1, 2]], ([[1]], [[1, 2]]), False))
        self.assertIs(judge_note(first, second, ("cover", 2, [[0, 1]], ([[0]], [[0, 1]]), False)), True)

    def test_the_second_form_is_judged_also_if_the_contents_differ(self):
        good = ("cover", 2, [[0, 1]], ([[0]], [[0, 1]]), False)
        for first, second in (([1, 2], [2, 1, 5]), ([1, 2, 7], [2, 1]), ([7, 1, 2, 7], [2, 5, 1]), ([0, 1], [1, 0, 3])):
            self.assertIs(judge_note(first, second, good), True, (first, second))
            self.check_refused(second, first, good)
        self.assertIs(judge_note([1, 2, 2], [2, 1], ("cover", 2, [[0, 1, 2]], ([[0]], [[0, 1]]), False)), True)
        self.assertIs(judge_note([4, 5], [], ("cover", 5, [[0]], ([[]], []), False)), True)
        self.check_refused([1, 2], [2, 1, 2], good)
        self.check_refused([2, 1], [1, 2, 5], good)

    def test_no_note_is_taken_for_words_that_a_path_joins(self):
        for first, second in two_orders():
            if related(first, second) and len(first) <= 4:
                self.check_all_notes_refused(first, second)

    def check_all_notes_refused(self, first, second):
        for greatest in range(-1, 4):
            for swapped in (False, True):
                one, other = (second, first) if swapped else (first, second)
                one, other = up_to(one, greatest), up_to(other, greatest)
                for count in range(3):
                    papers = [rising_paper(other, count)]
                    papers.extend(falling_paper(other, m) for m in range(len(other) + 1))
                    for family in families_of(one, count, may_rise):
                        for paper in papers:
                            told = ("cover", greatest, family, paper, swapped)
                            self.assertIs(judge_note(first, second, told), False, (first, second, told))


if __name__ == "__main__":
    unittest.main()
