import os
import sys
import unittest
from itertools import product

sys.path.insert(0, os.path.dirname(os.path.abspath(__file__)))

from cutpieces.desk import tp_cut
from plain import Draws, NothingChangedNothingKept, Unseen, cut, split

LENGTHS_NOT_ALLOWED = (0, 1, 49, 4294967295)


def turning(many):
    """As many letters, 0 1 2 3 over and over."""
    return [place % 4 for place in range(many)]


class OrdinaryInputs(unittest.TestCase):
    def test_one_piece(self):
        self.assertEqual(tp_cut(2, [0, 1]), [1, 0, 1])
        self.assertEqual(tp_cut(2, [3, 3]), [1, 3, 3])
        self.assertEqual(tp_cut(3, [2, 0, 1]), [1, 2, 0, 1])
        self.assertEqual(tp_cut(5, [0, 0, 3, 1, 2]), [1, 0, 0, 3, 1, 2])

    def test_two_pieces(self):
        self.assertEqual(tp_cut(2, [0, 1, 2]), [2, 0, 1, 1, 2])
        self.assertEqual(tp_cut(2, [0, 0, 0]), [2, 0, 0, 0, 0])
        self.assertEqual(tp_cut(3, [2, 0, 1, 3]), [2, 2, 0, 1, 0, 1, 3])
        self.assertEqual(tp_cut(6, [3, 1, 2, 0, 0, 1, 2]), [2, 3, 1, 2, 0, 0, 1, 1, 2, 0, 0, 1, 2])

    def test_pieces_of_two_letters(self):
        self.assertEqual(tp_cut(2, [3, 1, 0, 2, 2]), [4, 3, 1, 1, 0, 0, 2, 2, 2])

    def test_pieces_of_three_letters(self):
        self.assertEqual(tp_cut(3, [1, 3, 0, 0, 2]), [3, 1, 3, 0, 3, 0, 0, 0, 0, 2])

    def test_pieces_of_four_letters(self):
        self.assertEqual(tp_cut(4, [3, 2, 1, 0, 3, 2]), [3, 3, 2, 1, 0, 2, 1, 0, 3, 1, 0, 3, 2])

    def test_the_same_text_by_several_lengths(self):
        text = [0, 2, 1, 1, 3]
        self.assertEqual(tp_cut(2, text), [4, 0, 2, 2, 1, 1, 1, 1, 3])
        self.assertEqual(tp_cut(3, text), [3, 0, 2, 1, 2, 1, 1, 1, 1, 3])
        self.assertEqual(tp_cut(4, text), [2, 0, 2, 1, 1, 2, 1, 1, 3])
        self.assertEqual(tp_cut(5, text), [1, 0, 2, 1, 1, 3])
        self.assertEqual(tp_cut(6, text), [-22])

    def test_the_same_piece_twice_is_given_twice(self):
        self.assertEqual(tp_cut(3, [0, 1, 0, 1, 0]), [3, 0, 1, 0, 1, 0, 1, 0, 1, 0])
        self.assertEqual(tp_cut(2, [1, 1, 1, 1]), [3, 1, 1, 1, 1, 1, 1])

    def test_a_text_that_ends_where_it_began(self):
        self.assertEqual(tp_cut(2, [2, 0, 1, 2]), [3, 2, 0, 0, 1, 1, 2])
        self.assertEqual(tp_cut(3, [0, 1, 2, 0, 1]), [3, 0, 1, 2, 1, 2, 0, 2, 0, 1])

    def test_pieces_of_48_letters(self):
        self.assertEqual(tp_cut(48, [0, 1, 2, 3] * 12), [1] + [0, 1, 2, 3] * 12)
        self.assertEqual(tp_cut(48, [0, 1, 2, 3] * 12 + [0]), [2] + [0, 1, 2, 3] * 12 + [1, 2, 3, 0] * 12)
        self.assertEqual(tp_cut(48, [1] + [0] * 48 + [2]), [3] + [1] + [0] * 47 + [0] * 48 + [0] * 47 + [2])

    def test_all_short_texts(self):
        for k, most in ((2, 6), (3, 6), (4, 6), (5, 6)):
            for length in range(k, most + 1):
                for text in product(range(4), repeat=length):
                    text = list(text)
                    pieces = split(k, tp_cut(k, text)[1:])
                    self.assertEqual(len(pieces), length - k + 1)
                    # the first letters of all pieces and the rest of the last one are the text again
                    self.assertEqual([piece[0] for piece in pieces] + pieces[-1][1:], text)
                    self.assertEqual(pieces, cut(k, text))


class EdgesOfTheLength(unittest.TestCase):
    lengths = (2, 3, 47, 48)

    def test_one_letter_too_few(self):
        for k in self.lengths:
            for text in (turning(k - 1), [0] * (k - 1), [3] * (k - 1)):
                self.assertEqual(tp_cut(k, text), [-22], k)

    def test_just_one_piece(self):
        for k in self.lengths:
            for text in (turning(k), [0] * k, [3] * k):
                self.assertEqual(tp_cut(k, text), [1] + text)

    def test_just_64_pieces(self):
        for k in self.lengths:
            answer = tp_cut(k, turning(63 + k))
            self.assertEqual(answer, [64] + [(place + step) % 4 for place in range(64) for step in range(k)])
            self.assertEqual(len(answer), 1 + 64 * k)
            self.assertEqual(tp_cut(k, [3] * (63 + k)), [64] + [3] * (64 * k))

    def test_one_letter_too_many(self):
        for k in self.lengths:
            for text in (turning(64 + k), [0] * (64 + k), [3] * (64 + k)):
                self.assertEqual(tp_cut(k, text), [-22], k)

    def test_no_letters(self):
        for k in self.lengths + LENGTHS_NOT_ALLOWED:
            self.assertEqual(tp_cut(k, []), [-22], k)

    def test_130_letters(self):
        for k in self.lengths + LENGTHS_NOT_ALLOWED:
            for text in (turning(130), [0] * 130, [255] * 130):
                self.assertEqual(tp_cut(k, text), [-22], k)

    def test_every_length_of_text_by_every_length_of_piece(self):
        text = Draws(1).letters(130)
        for k in range(2, 49):
            for length in range(131):
                answer = tp_cut(k, text[:length])
                if length < k or length > 63 + k:
                    self.assertEqual(answer, [-22], (k, length))
                else:
                    self.assertEqual(answer[0], length - k + 1, (k, length))
                    self.assertEqual(split(k, answer[1:]), cut(k, text[:length]), (k, length))


class Refusals(unittest.TestCase):
    def test_lengths_of_pieces_that_are_not_allowed(self):
        for k in LENGTHS_NOT_ALLOWED:
            for length in (0, 1, 2, 3, 47, 48, 49, 50, 63, 64, 65, 111, 112, 113, 129, 130):
                for letter in (0, 3, 4, 255):
                    self.assertEqual(tp_cut(k, [letter] * length), [-22], (k, length, letter))

    def test_every_length_of_text_where_the_length_of_pieces_is_not_allowed(self):
        for k in LENGTHS_NOT_ALLOWED + (50, 64, 130, 131, 256, 258, 2 ** 16 + 2, 2 ** 31 + 2):
            for length in range(131):
                self.assertEqual(tp_cut(k, turning(length)), [-22], (k, length))

    def test_the_text_is_not_looked_at_then(self):
        for k in LENGTHS_NOT_ALLOWED:
            self.assertEqual(tp_cut(k, Unseen([0] * 60)), [-22], k)

    def test_a_letter_above_3_at_the_first_and_at_the_last_place(self):
        for k, letter in product((2, 3, 47, 48), (4, 255)):
            for length in (k, k + 1, 62 + k, 63 + k):
                for place in (0, length - 1):
                    text = turning(length)
                    text[place] = letter
                    self.assertEqual(tp_cut(k, text), [-22], (k, length, place))

    def test_a_letter_above_3_at_every_place(self):
        for k, length in ((2, 65), (7, 20), (48, 111)):
            for place in range(length):
                text = turning(length)
                text[place] = 4
                self.assertEqual(tp_cut(k, text), [-22], (k, place))

    def test_letters_above_3_alone(self):
        for k in (2, 3, 48):
            for letter in (4, 255):
                self.assertEqual(tp_cut(k, [letter] * k), [-22])
                self.assertEqual(tp_cut(k, [letter] * (63 + k)), [-22])

    def test_a_letter_above_3_in_a_text_of_a_wrong_length(self):
        for k in (2, 3, 48):
            self.assertEqual(tp_cut(k, [4] * (k - 1)), [-22])
            self.assertEqual(tp_cut(k, [0] * (63 + k) + [4]), [-22])

    def test_every_letter(self):
        for letter in range(4):
            self.assertEqual(tp_cut(2, [0, letter, 1]), [2, 0, letter, letter, 1])
        for letter in range(4, 256):
            self.assertEqual(tp_cut(2, [0, letter, 1]), [-22])


class Calls(NothingChangedNothingKept, unittest.TestCase):
    function = staticmethod(tp_cut)
    calls = (
        (2, [0, 1, 0, 2, 0, 1, 1, 3]),
        (3, [0, 1, 0, 2, 0, 1, 1, 3]),
        (2, [1, 2]),
        (4, [3, 3, 3, 3]),
        (48, turning(111)),
        (48, turning(112)),
        (47, turning(46)),
        (2, [0, 4]),
        (2, []),
        (0, [9, 255]),
        (4294967295, turning(130)),
    )

    def test_a_changed_text_is_looked_at_anew(self):
        text = [0, 1, 2]
        self.assertEqual(tp_cut(2, text), [2, 0, 1, 1, 2])
        text[1] = 3
        self.assertEqual(tp_cut(2, text), [2, 0, 3, 3, 2])
        text.append(1)
        self.assertEqual(tp_cut(2, text), [3, 0, 3, 3, 2, 2, 1])

    def test_arguments_go_by_their_names(self):
        self.assertEqual(tp_cut(k=2, text=[0, 1, 3]), [2, 0, 1, 1, 3])


if __name__ == "__main__":
    unittest.main()
