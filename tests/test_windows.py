"""Points 2, 3, 5, 6, 16 and 17: windows, whose letters come and go at both ends."""

import unittest
from random import Random

from coverpapers.columns import insert_by_columns
from coverpapers.covers import greatest_falling, greatest_rising, rises
from coverpapers.errors import EmptyWindow, OutOfRange
from coverpapers.families import cover, judge
from coverpapers.pairs import pair_of
from coverpapers.rows import insert_by_rows
from coverpapers.windows import Window
from tests.examples import BIG, greatest_cover, has_its_own_lists, long_words, small_words
from tests.test_families import may_fall, may_rise

# Equal letters, different ones, negative ones and large ones.
KINDS_OF_LETTERS = [(0,), (0, 1), (-1, 0, 1, 2), tuple(range(-50, 50)), (-BIG, -1, 0, 1, BIG, BIG + 1)]


class WindowTest(unittest.TestCase):
    def check(self, window, letters):
        """Compare with the letters inserted anew."""
        table, record = pair_of(letters)
        self.assertEqual(window.table(), table, letters)
        self.assertEqual(window.record(), record, letters)
        self.assertEqual(window.word(), letters)
        self.assertEqual(window.rises(), rises(letters))
        self.assertEqual(len(window), len(letters))
        self.assertEqual([letter for letter in window], letters)

    def check_covers(self, window, letters, counts):
        for count in counts:
            self.assertEqual(window.greatest(count), greatest_rising(letters, count))
            rising, falling = window.paper(count)
            self.assertIs(judge(letters, rising, falling), True, (letters, count))
            self.assertEqual(len(rising), count)
            self.assertLessEqual(len(falling), len(letters))
            self.assertEqual(cover(rising), window.greatest(count), (letters, count))
            self.assertEqual(window.greatest(count, falling=True), greatest_falling(letters, count))
            rising, falling = window.paper(count, falling=True)
            self.assertIs(judge(letters, rising, falling), True, (letters, count))
            self.assertEqual(len(falling), count)
            self.assertLessEqual(len(rising), len(letters))
            self.assertEqual(cover(falling), window.greatest(count, falling=True), (letters, count))

    def step(self, window, letters, kind, source):
        """Push or pop a letter, and check what is returned."""
        letter = source.choice(kind)
        way = source.choice(["right", "left", "right", "left", "pop right", "pop left"])
        if way == "pop right" and letters:
            self.assertEqual(window.pop_right(), letters.pop())
        elif way == "pop left" and letters:
            self.assertEqual(window.pop_left(), letters.pop(0))
        elif way == "right":
            self.assertEqual(window.push_right(letter), insert_by_rows(pair_of(letters)[0], letter)[1])
            letters.append(letter)
        else:
            self.assertEqual(window.push_left(letter), insert_by_columns(pair_of(letters)[0], letter)[1])
            letters.insert(0, letter)


class PushAndPopTest(WindowTest):
    def test_many_pushes_and_pops(self):
        source = Random(51)
        for kind in KINDS_OF_LETTERS:
            for n in (0, 1, 4, 15):
                letters = [source.choice(kind) for _ in range(n)]
                window = Window(letters)
                for _ in range(80):
                    self.check(window, letters)
                    self.step(window, letters, kind, source)
                self.check(window, letters)

    def test_each_push_and_pop_of_small_words(self):
        for word in small_words((-1, 0, 1), 5):
            for letter in range(-2, 3):
                window = Window(word)
                window.push_left(letter)
                self.check(window, [letter, *word])
                self.assertEqual(window.pop_left(), letter)
                self.check(window, word)
                window.push_right(letter)
                self.check(window, [*word, letter])
                self.assertEqual(window.pop_right(), letter)
                self.check(window, word)

    def test_a_push_returns_the_cell_by_which_the_table_grows(self):
        source = Random(52)
        for kind in KINDS_OF_LETTERS:
            window = Window()
            for k in range(40):
                before = window.table()
                push = window.push_left if source.random() < 0.5 else window.push_right
                cell = push(source.choice(kind))
                self.assertIs(type(cell), tuple)
                row, column = cell
                self.assertEqual(len(window.table()[row]), column + 1)
                lengths = [len(line) for line in (*before, ())]
                lengths[row] += 1
                self.assertEqual([len(line) for line in window.table()], [n for n in lengths if n > 0])

    def test_some_windows(self):
        window = Window([2, 3])
        self.assertEqual(window.push_right(1), (1, 0))
        self.assertEqual(window.push_right(2), (1, 1))
        self.assertEqual((window.table(), window.record()), (((1, 2), (2, 3)), ((1, 2), (3, 4))))
        self.assertEqual(window.push_left(4), (2, 0))
        self.assertEqual((window.table(), window.record()), (((1, 2), (2, 3), (4,)), ((1, 3), (2, 5), (4,))))
        self.assertEqual((window.pop_left(), window.pop_right(), window.word()), (4, 2, [2, 3, 1]))

    def test_long_words_made_from_either_end_and_taken_apart(self):
        for word in long_words():
            from_right = Window()
            from_left = Window()
            for letter in word:
                from_right.push_right(letter)
            for letter in reversed(word):
                from_left.push_left(letter)
            for window in (from_right, from_left):
                self.check(window, word)
            for k, letter in enumerate(word):
                self.assertEqual(from_left.pop_left(), letter)
                self.assertEqual(from_right.pop_right(), word[-1 - k])
            for window in (from_right, from_left):
                self.check(window, [])

    def test_a_window_made_of_a_list_of_a_tuple_and_of_nothing(self):
        for word in ([], [5], [2, 3, 1, 2], [BIG, -BIG, 0, 0]):
            self.check(Window(word), word)
            self.check(Window(tuple(word)), word)
            self.check(Window(letters=word), word)
        self.check(Window(), [])

    def test_the_kinds_of_values(self):
        for window in (Window(), Window((2, 3, 1, 2))):
            self.assertIs(type(window.word()), list)
            for value in (window.table(), window.record(), window.rises(), *window.table(), *window.record()):
                self.assertIs(type(value), tuple)
            self.assertIs(type(len(window)), int)

    def test_two_loops_at_once(self):
        window = Window([3, 1, 2])
        pairs = [(first, second) for first in window for second in window]
        self.assertEqual(pairs, [(a, b) for a in (3, 1, 2) for b in (3, 1, 2)])
        self.assertEqual(window.word(), [3, 1, 2])


class EmptyWindowTest(WindowTest):
    def check_empty(self, window):
        for pop in (window.pop_right, window.pop_left):
            with self.assertRaises(EmptyWindow):
                pop()
            self.check(window, [])

    def test_a_new_window(self):
        for window in (Window(), Window([]), Window(())):
            self.check_empty(window)

    def test_a_window_that_was_emptied(self):
        for ends in ("rrr", "lll", "rlr", "lrl"):
            window = Window([2, 1, 3])
            for end in ends:
                if end == "r":
                    window.pop_right()
                else:
                    window.pop_left()
            self.check_empty(window)

    def test_letters_can_be_pushed_afterwards(self):
        for push_first in (True, False):
            window = Window([7])
            window.pop_left()
            self.check_empty(window)
            self.assertEqual(window.push_left(4) if push_first else window.push_right(4), (0, 0))
            window.push_right(1)
            self.check(window, [4, 1])

    def test_the_covers_of_an_empty_window(self):
        self.check_covers(Window(), [], range(4))


class GreatestAndPaperTest(WindowTest):
    def test_at_every_moment(self):
        source = Random(53)
        for kind in KINDS_OF_LETTERS:
            letters = [source.choice(kind) for _ in range(5)]
            window = Window(letters)
            for _ in range(40):
                self.check_covers(window, letters, range(len(letters) + 3))
                self.step(window, letters, kind, source)
                self.check(window, letters)

    def test_small_words(self):
        for word in small_words((0, 1, 2), 4):
            self.check_covers(Window(word), word, range(len(word) + 2))

    def test_ten_thousand_lists(self):
        for word in ([], [4], [2, 3, 1, 2]):
            self.check_covers(Window(word), word, (10 ** 4,))

    def test_the_kind_of_lists(self):
        window = Window([3, 1, 2, 2])
        told = [window.greatest(k, falling=falling) for falling in (False, True) for k in (0, 1, 2, 3)]
        self.assertEqual(told, [0, 3, 4, 4, 0, 2, 3, 4])
        self.assertEqual(window.greatest(1), 3)
        self.assertEqual(window.greatest(BIG), 4)
        self.assertEqual(window.greatest(BIG, falling=True), 4)

    def test_below_0(self):
        for letters in ([], [2, 3, 1, 2]):
            window = Window(letters)
            for count in (-1, -2, -BIG):
                for told in (window.greatest, window.paper):
                    for falling in (False, True):
                        with self.assertRaises(OutOfRange, msg=(letters, count)):
                            told(count, falling=falling)
                    with self.assertRaises(OutOfRange):
                        told(count)
            self.check(window, letters)

    def test_the_kind_of_lists_is_passed_by_keyword(self):
        for told in (Window([1]).greatest, Window([1]).paper):
            with self.assertRaises(TypeError):
                told(1, True)

    def test_they_change_nothing(self):
        window = Window([2, 3, 1, 2])
        for count in range(5):
            for falling in (False, True):
                window.greatest(count, falling=falling)
                for family in window.paper(count, falling=falling):
                    for indexes in family:
                        indexes.append(9)
                    family.clear()
        self.check(window, [2, 3, 1, 2])
        self.check_covers(window, [2, 3, 1, 2], range(5))


class StreamTest(WindowTest):
    """Point 2: the window moves along a stream, and tells the greatest covers of the letters in it."""

    def check_by_trying(self, window, letters):
        self.assertEqual(window.word(), letters)
        for count in range(len(letters) + 2):
            for falling, fits in ((False, may_rise), (True, may_fall)):
                most = greatest_cover(letters, count, fits)
                self.assertEqual(window.greatest(count, falling=falling), most, (letters, count))
                paper = window.paper(count, falling=falling)
                self.assertIs(judge(letters, *paper), True, (letters, count))
                self.assertEqual(cover(paper[1] if falling else paper[0]), most)

    def test_to_the_right(self):
        source = Random(54)
        for kind in KINDS_OF_LETTERS:
            stream = [source.choice(kind) for _ in range(30)]
            window = Window(stream[:6])
            for start in range(24):
                self.check_by_trying(window, stream[start:start + 6])
                window.push_right(stream[start + 6])
                self.assertEqual(window.pop_left(), stream[start])

    def test_to_the_left(self):
        source = Random(55)
        for kind in KINDS_OF_LETTERS:
            stream = [source.choice(kind) for _ in range(30)]
            window = Window(stream[24:])
            for start in range(24, 0, -1):
                self.check_by_trying(window, stream[start:start + 6])
                self.assertEqual(window.pop_right(), stream[start + 5])
                window.push_left(stream[start - 1])

    def test_a_wide_window(self):
        source = Random(56)
        stream = [source.randint(0, 12) for _ in range(60)]
        window = Window(stream[:25])
        for start in range(35):
            letters = stream[start:start + 25]
            self.check(window, letters)
            self.check_covers(window, letters, (1, 2, 4))
            window.push_right(stream[start + 25])
            window.pop_left()


class OwnLettersTest(WindowTest):
    """Points 3 and 17: a window keeps its own letters."""

    def test_a_change_of_the_list_that_was_handed_in(self):
        letters = [2, 3, 1, 2]
        window = Window(letters)
        letters.append(9)
        letters[0] = 7
        self.check(window, [2, 3, 1, 2])
        window.push_right(4)
        window.pop_left()
        self.assertEqual(letters, [7, 3, 1, 2, 9])

    def test_a_change_of_a_list_that_a_window_returned(self):
        window = Window([2, 3, 1, 2])
        word = window.word()
        word.clear()
        self.check(window, [2, 3, 1, 2])
        word = window.word()
        window.push_left(0)
        self.assertEqual(word, [2, 3, 1, 2])
        paper = window.paper(2)
        self.assertTrue(has_its_own_lists(paper, window.paper(2), window.word(), window.word()))

    def test_values_that_were_returned_stay_as_they_are(self):
        window = Window([2, 3, 1, 2])
        told = (window.word(), window.table(), window.record(), window.rises())
        for _ in range(4):
            window.pop_left()
        window.push_right(8)
        self.assertEqual(told, ([2, 3, 1, 2], ((1, 2), (2, 3)), ((1, 2), (3, 4)), (2, 2)))

    def test_a_change_of_another_window(self):
        letters = [2, 3, 1, 2]
        first = Window(letters)
        second = Window(letters)
        empty = Window()
        first.push_right(5)
        first.push_left(0)
        self.check(second, [2, 3, 1, 2])
        second.pop_right()
        second.pop_left()
        self.check(first, [0, 2, 3, 1, 2, 5])
        self.check(second, [3, 1])
        Window().push_right(1)
        self.check(empty, [])
        self.check(Window(), [])


if __name__ == "__main__":
    unittest.main()
