"""Point 19: lowering, raising and exchanging unmatched letters."""

import unittest
from random import Random

from coverpapers.covers import rises
from coverpapers.moves import allowed_moves, make_move
from coverpapers.operators import exchanged, lowered, raised
from coverpapers.pairs import pair_of, table_of, word_of
from coverpapers.tables import shape_of
from tests.examples import BIG, SMALL_TABLES, long_words, records, small_words


def neighboring_words():
    """Make words of few neighboring letters, some of them long."""
    yield from small_words((-1, 0, 1), 5)
    yield from small_words((0, 1), 7)
    source = Random(71)
    for n in (6, 9, 15, 30):
        for first, last in ((0, 1), (-1, 1), (2, 5), (BIG, BIG + 2), (-BIG - 1, -BIG)):
            for _ in range(6):
                yield [source.randint(first, last) for _ in range(n)]


WORDS = list(neighboring_words())


def numbers_for(word):
    return range(min(word, default=0) - 1, max(word, default=0) + 2)


def unmatched(word, number):
    """Take out neighbors of the sequence that match, until none are left; return the places that remain."""
    places = [place for place, letter in enumerate(word) if letter in (number, number + 1)]
    k = 0
    while k + 1 < len(places):
        if (word[places[k]], word[places[k + 1]]) == (number + 1, number):
            del places[k:k + 2]
            k = 0
        else:
            k += 1
    return [k for k in places if word[k] == number], [k for k in places if word[k] == number + 1]


def with_letter(word, place, letter):
    return [*word[:place], letter, *word[place + 1:]]


def lowered_as_told(word, number):
    lower, _ = unmatched(word, number)
    return with_letter(word, max(lower), number + 1) if lower else None


def raised_as_told(word, number):
    _, upper = unmatched(word, number)
    return with_letter(word, min(upper), number) if upper else None


def exchanged_as_told(word, number):
    lower, upper = unmatched(word, number)
    changed = list(word)
    for k, place in enumerate(sorted(lower + upper)):
        changed[place] = number if k < len(upper) else number + 1
    return changed


class OperatorsTest(unittest.TestCase):
    def test_some_words(self):
        self.assertEqual(lowered([1, 1, 2], 1), [1, 2, 2])
        self.assertEqual(lowered([2, 1, 1], 1), [2, 1, 2])
        self.assertEqual(raised([1, 2, 2], 1), [1, 1, 2])
        self.assertEqual(raised([2, 2, 1], 1), [1, 2, 1])
        self.assertEqual(exchanged([1, 1, 2], 1), [1, 2, 2])
        self.assertEqual(exchanged([1, 1, 5, 2, 1, 0, 2], 1), [1, 2, 5, 2, 1, 0, 2])
        self.assertEqual(exchanged([2, 2, 2], 1), [1, 1, 1])
        self.assertEqual(exchanged([1, 3], 1), [2, 3])

    def test_matched_letters_are_not_changed(self):
        for word in ([2, 1], [2, 1, 2, 1], [2, 2, 1, 1], [2, 9, 1], [3, 0]):
            self.assertIsNone(lowered(word, 1))
            self.assertIsNone(raised(word, 1))
            self.assertEqual(exchanged(word, 1), word)

    def test_the_nearest_letter_to_the_left_is_matched(self):
        self.assertEqual(raised([2, 2, 1], 1), [1, 2, 1])
        self.assertEqual(raised([2, 1, 2], 1), [2, 1, 1])
        self.assertEqual(lowered([2, 1, 1, 2], 1), [2, 1, 2, 2])

    def test_a_letter_to_the_right_is_not_matched(self):
        self.assertEqual(lowered([1, 2], 1), [2, 2])
        self.assertEqual(raised([1, 2], 1), [1, 1])
        self.assertEqual(exchanged([1, 2], 1), [1, 2])

    def test_the_matching_done_otherwise(self):
        for word in WORDS:
            for number in numbers_for(word):
                self.assertEqual(lowered(word, number), lowered_as_told(word, number), (word, number))
                self.assertEqual(raised(word, number), raised_as_told(word, number), (word, number))
                self.assertEqual(exchanged(word, number), exchanged_as_told(word, number), (word, number))

    def test_the_unmatched_letters_are_first_lower_then_upper_ones(self):
        for word in WORDS:
            for number in numbers_for(word):
                after = lowered(word, number)
                if after is not None:
                    place = [k for k, letter in enumerate(word) if letter != after[k]]
                    self.assertEqual(len(place), 1)
                    self.assertEqual((word[place[0]], after[place[0]]), (number, number + 1))
                after = raised(word, number)
                if after is not None:
                    place = [k for k, letter in enumerate(word) if letter != after[k]]
                    self.assertEqual(len(place), 1)
                    self.assertEqual((word[place[0]], after[place[0]]), (number + 1, number))

    def test_no_result(self):
        for word, number in (([], 0), ([], BIG), ([5], 3), ([5], 6), ([1, 3], -5), ([2, 1], 1), ([-1], 0)):
            self.assertIsNone(lowered(word, number), (word, number))
        for word, number in (([], 0), ([], -BIG), ([5], 3), ([5], 5), ([1, 3], 7), ([2, 1], 1), ([1], -1)):
            self.assertIsNone(raised(word, number), (word, number))

    def test_a_letter_0_is_changed(self):
        self.assertEqual(lowered([0], 0), [1])
        self.assertEqual(lowered([-1], -1), [0])
        self.assertEqual(raised([0], -1), [-1])
        self.assertEqual(raised([1], 0), [0])
        self.assertEqual(lowered([0, 0], 0), [0, 1])
        self.assertEqual(raised([0, 0], -1), [-1, 0])
        self.assertEqual(exchanged([0], 0), [1])
        self.assertEqual(exchanged([0], -1), [-1])
        self.assertIsNone(raised([0], 0))
        self.assertIsNone(lowered([0], -1))
        self.assertIsNone(lowered([1, 0], 0))
        self.assertIsNone(raised([1, 0], 0))

    def test_the_empty_word(self):
        for number in (-1, 0, 1, BIG):
            self.assertIsNone(lowered([], number))
            self.assertIsNone(raised([], number))
            self.assertEqual(exchanged([], number), [])

    def test_lowering_and_raising_undo_one_another(self):
        for word in WORDS:
            for number in numbers_for(word):
                after = lowered(word, number)
                if after is not None:
                    self.assertEqual(raised(after, number), word, (word, number))
                after = raised(word, number)
                if after is not None:
                    self.assertEqual(lowered(after, number), word, (word, number))

    def test_exchanging_twice_gives_the_word(self):
        for word in WORDS:
            for number in numbers_for(word):
                after = exchanged(word, number)
                self.assertEqual(exchanged(after, number), word, (word, number))
                self.assertEqual(after.count(number), word.count(number + 1))
                self.assertEqual(after.count(number + 1), word.count(number))

    def test_the_record_stays_the_same(self):
        for word in WORDS:
            for number in numbers_for(word):
                for operator in (lowered, raised, exchanged):
                    after = operator(word, number)
                    if after is not None:
                        self.assertEqual(pair_of(after)[1], pair_of(word)[1], (word, number))
                        self.assertEqual(rises(after), rises(word))

    def test_the_results_of_words_that_a_path_joins_have_one_table(self):
        for table in SMALL_TABLES:
            words = [word_of(table, record) for record in records(shape_of(table))]
            for number in range(-2, 3):
                self.check_one_table(words, number)
        for word in WORDS:
            words = [word, *(make_move(word, move) for move in allowed_moves(word))]
            for number in numbers_for(word):
                self.check_one_table(words, number)

    def check_one_table(self, words, number):
        for operator in (lowered, raised, exchanged):
            results = [operator(word, number) for word in words]
            tables = [None if result is None else table_of(result) for result in results]
            self.assertEqual(tables, tables[:1] * len(tables), (words[0], number))

    def test_words_of_far_letters(self):
        for word in long_words():
            for number in (word[0], word[-1] - 1, BIG):
                self.assertEqual(lowered(word, number), lowered_as_told(word, number))
                self.assertEqual(raised(word, number), raised_as_told(word, number))
                self.assertEqual(exchanged(word, number), exchanged_as_told(word, number))

    def test_the_word_stays_as_it_is(self):
        for word in ([], [2, 1], [1, 1, 2], [5, 7]):
            for operator in (lowered, raised, exchanged):
                before = list(word)
                result = operator(word, 1)
                self.assertEqual(word, before)
                if result is not None:
                    self.assertIs(type(result), list)
                    expected = list(result)
                    result.append(9)
                    self.assertEqual(word, before)
                    self.assertEqual(operator(word, 1), expected)


if __name__ == "__main__":
    unittest.main()
