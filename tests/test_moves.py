"""Point 8: the allowed moves, and making them."""

import unittest
from itertools import product

from coverpapers.errors import WrongMove
from coverpapers.moves import allowed_moves, make_move

BIG = 10 ** 40


def moves_as_told(word):
    """List the allowed moves as point 8 tells them."""
    moves = []
    for index in range(len(word) - 2):
        a, b, c = word[index], word[index + 1], word[index + 2]
        if (a <= c < b) or (b <= c < a):
            moves.append((index, "left"))
        if (b < a <= c) or (c < a <= b):
            moves.append((index, "right"))
    return moves


class AllowedMovesTest(unittest.TestCase):
    def test_different_letters(self):
        self.assertEqual(allowed_moves([1, 2, 3]), [])
        self.assertEqual(allowed_moves([1, 3, 2]), [(0, "left")])
        self.assertEqual(allowed_moves([2, 1, 3]), [(0, "right")])
        self.assertEqual(allowed_moves([2, 3, 1]), [(0, "right")])
        self.assertEqual(allowed_moves([3, 1, 2]), [(0, "left")])
        self.assertEqual(allowed_moves([3, 2, 1]), [])

    def test_equal_letters(self):
        self.assertEqual(allowed_moves([1, 1, 1]), [])
        self.assertEqual(allowed_moves([1, 1, 2]), [])
        self.assertEqual(allowed_moves([1, 2, 1]), [(0, "left")])
        self.assertEqual(allowed_moves([2, 1, 1]), [(0, "left")])
        self.assertEqual(allowed_moves([1, 2, 2]), [])
        self.assertEqual(allowed_moves([2, 1, 2]), [(0, "right")])
        self.assertEqual(allowed_moves([2, 2, 1]), [(0, "right")])

    def test_negative_and_large_letters(self):
        self.assertEqual(allowed_moves([-1, -3, 0]), [(0, "right")])
        self.assertEqual(allowed_moves([0, -3, -1]), [(0, "left")])
        self.assertEqual(allowed_moves([BIG, BIG + 2, BIG + 1]), [(0, "left")])
        self.assertEqual(allowed_moves([-BIG, BIG, -BIG - 1]), [(0, "right")])
        self.assertEqual(allowed_moves([-BIG, 0, BIG]), [])

    def test_the_order_of_the_moves(self):
        self.assertEqual(allowed_moves([2, 3, 1, 2]), [(0, "right"), (1, "left")])
        self.assertEqual(allowed_moves([1, 3, 2, 5, 4]), [(0, "left"), (1, "right"), (2, "left")])
        self.assertEqual(allowed_moves([3, 1, 4, 2, 5]), [(0, "right"), (1, "left"), (2, "right")])

    def test_no_index_has_both_moves(self):
        for word in product(range(3), repeat=3):
            self.assertLessEqual(len(allowed_moves(list(word))), 1, word)

    def test_words_of_0_1_and_2_letters(self):
        for word in ([], [5], [1, 2], [2, 1], [3, 3]):
            self.assertEqual(allowed_moves(word), [], word)

    def test_a_move_is_a_tuple(self):
        for move in allowed_moves([3, 1, 4, 2, 5]):
            self.assertIs(type(move), tuple)

    def test_all_small_words(self):
        for n in range(6):
            for word in product((-1, 0, 1, 2), repeat=n):
                self.assertEqual(allowed_moves(list(word)), moves_as_told(word), word)


class MakeMoveTest(unittest.TestCase):
    def test_the_right_move_exchanges_the_last_two(self):
        self.assertEqual(make_move([2, 1, 3], (0, "right")), [2, 3, 1])
        self.assertEqual(make_move([2, 3, 1], (0, "right")), [2, 1, 3])
        self.assertEqual(make_move([2, 2, 1], (0, "right")), [2, 1, 2])
        self.assertEqual(make_move([9, 9, 2, 1, 3, 9], (2, "right")), [9, 9, 2, 3, 1, 9])

    def test_the_left_move_exchanges_the_first_two(self):
        self.assertEqual(make_move([1, 3, 2], (0, "left")), [3, 1, 2])
        self.assertEqual(make_move([3, 1, 2], (0, "left")), [1, 3, 2])
        self.assertEqual(make_move([1, 2, 1], (0, "left")), [2, 1, 1])
        self.assertEqual(make_move([9, 9, 1, 3, 2, 9], (2, "left")), [9, 9, 3, 1, 2, 9])

    def test_large_and_negative_letters(self):
        self.assertEqual(make_move([BIG, BIG + 2, BIG + 1], (0, "left")), [BIG + 2, BIG, BIG + 1])
        self.assertEqual(make_move([-1, -3, 0], (0, "right")), [-1, 0, -3])

    def test_the_same_move_leads_back(self):
        for n in range(3, 6):
            for word in product(range(4), repeat=n):
                for move in allowed_moves(list(word)):
                    after = make_move(list(word), move)
                    self.assertNotEqual(after, list(word))
                    self.assertIn(move, allowed_moves(after))
                    self.assertEqual(make_move(after, move), list(word), (word, move))

    def test_moves_that_are_not_allowed(self):
        for n in range(5):
            for word in product(range(3), repeat=n):
                allowed = moves_as_told(word)
                for move in product(range(-2, n + 2), ("left", "right")):
                    if move not in allowed:
                        with self.assertRaises(WrongMove, msg=(word, move)):
                            make_move(list(word), move)

    def test_an_index_below_0(self):
        # the three letters that a negative index would name allow the move
        word = [2, 1, 3, 2, 1, 3]
        for index in (-1, -2, -3, -4, -6, -7, -BIG):
            for side in ("left", "right"):
                with self.assertRaises(WrongMove, msg=index):
                    make_move(word, (index, side))

    def test_an_index_without_three_neighbors(self):
        for word in ([], [2], [2, 1], [2, 1, 3], [2, 1, 3, 2]):
            for index in (len(word) - 2, len(word) - 1, len(word), len(word) + 1, BIG):
                for side in ("left", "right"):
                    with self.assertRaises(WrongMove, msg=(word, index)):
                        make_move(word, (index, side))

    def test_an_index_too_long_to_be_written_out(self):
        for index in (10 ** 5000, -10 ** 5000):
            with self.assertRaises(WrongMove):
                make_move([2, 1, 3], (index, "right"))

    def test_another_word_as_the_side(self):
        for side in ("", "Left", "RIGHT", "up", "left ", "l"):
            for word in ([2, 1, 3], [1, 3, 2]):
                with self.assertRaises(WrongMove, msg=side):
                    make_move(word, (0, side))


class ArgumentsTest(unittest.TestCase):
    """Point 3: the word that is handed in stays as it is, and shares nothing with the returned one."""

    def test_the_word_stays_as_it_is(self):
        word = [2, 1, 3]
        allowed_moves(word)
        self.assertEqual(word, [2, 1, 3])
        after = make_move(word, (0, "right"))
        self.assertEqual(word, [2, 1, 3])
        after[0] = 7
        after.append(8)
        self.assertEqual(word, [2, 1, 3])

    def test_a_later_change_of_the_word_changes_no_returned_one(self):
        word = [2, 1, 3]
        after = make_move(word, (0, "right"))
        moves = allowed_moves(word)
        word.clear()
        self.assertEqual(after, [2, 3, 1])
        self.assertEqual(moves, [(0, "right")])

    def test_two_calls_return_two_lists(self):
        word = [2, 1, 3]
        self.assertIsNot(make_move(word, (0, "right")), make_move(word, (0, "right")))
        self.assertIsNot(allowed_moves(word), allowed_moves(word))

    def test_an_error_changes_nothing(self):
        word = [1, 2, 3]
        with self.assertRaises(WrongMove):
            make_move(word, (0, "left"))
        self.assertEqual(word, [1, 2, 3])


if __name__ == "__main__":
    unittest.main()
