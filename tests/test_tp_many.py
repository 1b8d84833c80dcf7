import os
import sys
import unittest
from itertools import combinations_with_replacement, product
from math import comb

sys.path.insert(0, os.path.dirname(os.path.abspath(__file__)))

from cutpieces.desk import tp_many
from plain import (Draws, NothingChangedNothingKept, as_lists, count_by_steps, cut, heaps_of_lengths_not_allowed,
                   heaps_of_too_many_pieces, heaps_with_a_letter_above_3, multinomial, texts_by_heap)


class OrdinaryInputs(unittest.TestCase):
    def test_one_text(self):
        self.assertEqual(tp_many(3, [[0, 1, 2], [1, 2, 3]]), [0, 1])

    def test_order_of_the_pieces_does_not_matter(self):
        pieces = cut(2, [0, 1, 0, 2, 0, 1, 1, 3])
        many = count_by_steps(pieces)
        self.assertGreater(many, 1)
        for seed in range(10):
            self.assertEqual(tp_many(2, Draws(seed).mixed(pieces)), [0, many])

    def test_two_rounds_in_either_order(self):
        # 0 1 0 2 0 3 and 0 2 0 1 0 3
        self.assertEqual(tp_many(2, [[0, 1], [1, 0], [0, 2], [2, 0], [0, 3]]), [0, 2])

    def test_every_heap_that_some_text_has(self):
        for k, most in ((2, 6), (3, 5), (4, 4), (5, 3)):
            for n in range(1, most + 1):
                for pieces, texts in texts_by_heap(k, n).items():
                    self.assertEqual(tp_many(k, as_lists(pieces)), [0, len(texts)], pieces)

    def test_every_heap_there_is(self):
        for k, n in ((2, 1), (2, 2), (2, 3), (2, 4), (3, 1), (3, 2)):
            texts = texts_by_heap(k, n)
            for pieces in combinations_with_replacement(product(range(4), repeat=k), n):
                self.assertEqual(tp_many(k, as_lists(pieces)), [0, len(texts.get(pieces, ()))], pieces)

    def test_longer_texts_against_laying_piece_behind_piece(self):
        draws = Draws(1)
        for k, limit, length in ((2, 2, 40), (2, 3, 20), (3, 2, 30), (3, 4, 26), (4, 2, 30), (5, 2, 40)):
            for _ in range(6):
                pieces = draws.mixed(cut(k, draws.letters(length, limit)))
                self.assertEqual(tp_many(k, pieces), [0, count_by_steps(pieces)], pieces)


class NamedEdges(unittest.TestCase):
    def test_the_same_piece_twice(self):
        self.assertEqual(tp_many(2, [[0, 0], [0, 0]]), [0, 1])
        self.assertEqual(tp_many(2, [[0, 1], [0, 1], [1, 0]]), [0, 1])
        # 0 1 0 1 0 and 1 0 1 0 1
        self.assertEqual(tp_many(2, [[0, 1], [0, 1], [1, 0], [1, 0]]), [0, 2])
        # the 0 0 twice may be spread over two visits: 3 ways
        self.assertEqual(tp_many(2, cut(2, [0, 0, 0, 1, 0, 2])), [0, 3])

    def test_the_same_piece_twice_where_no_text_is(self):
        self.assertEqual(tp_many(2, [[0, 1], [0, 1]]), [0, 0])

    def test_the_way_back_runs_along_a_piece(self):
        # first point 0, last point 1, and there are pieces 1 0: they are not the way back
        pieces = cut(2, [0, 1, 0, 1, 0, 1, 1])
        self.assertEqual(tp_many(2, pieces), [0, count_by_steps(pieces)])
        self.assertEqual(tp_many(2, pieces), [0, 3])

    def test_a_text_that_ends_where_it_began(self):
        self.assertEqual(tp_many(2, cut(2, [0, 1, 2, 0])), [0, 3])
        self.assertEqual(tp_many(3, cut(3, [0, 0, 1, 1, 0, 0])), [0, 4])
        # two rounds through 0: each of the four pieces may be the first, and just one way goes on from it
        self.assertEqual(tp_many(2, cut(2, [0, 1, 0, 2, 0])), [0, 4])

    def test_it_may_begin_at_each_point_as_often_as_pieces_begin_there(self):
        pieces = cut(2, [0, 0, 1, 1, 0, 2, 0])
        self.assertEqual(tp_many(2, pieces), [0, count_by_steps(pieces)])

    def test_points_that_are_one_anothers(self):
        self.assertEqual(tp_many(2, [[0, 1], [1, 0]]), [0, 2])
        self.assertEqual(tp_many(3, [[0, 1, 0], [1, 0, 1]]), [0, 2])
        self.assertEqual(tp_many(4, [[0, 1, 0, 1], [1, 0, 1, 0], [0, 1, 0, 1]]), [0, 1])

    def test_a_point_that_is_its_own(self):
        self.assertEqual(tp_many(2, [[3, 3]]), [0, 1])
        self.assertEqual(tp_many(4, [[2] * 4] * 9), [0, 1])
        self.assertEqual(tp_many(2, [[0, 0], [0, 1], [1, 1]]), [0, 1])

    def test_numbers_beyond_64_bits_all_pieces_of_three_letters(self):
        # the known number of rounds of de Bruijn is 24 ** 16 // 64, and each begins at 64 places
        pieces = as_lists(product(range(4), repeat=3))
        self.assertEqual(tp_many(3, pieces), [0, 24 ** 16])
        self.assertGreater(24 ** 16, 2 ** 64)

    def test_numbers_beyond_64_bits_rounds_from_one_point(self):
        # 8 times there and back between 0 and each other letter, each letter 4 times behind itself
        pieces = []
        for letter in (1, 2, 3):
            pieces += [[0, letter], [letter, 0]] * 8
        for letter in range(4):
            pieces += [[letter, letter]] * 4
        spread = comb(4 + 7, 4)
        from_0 = multinomial(8, 8, 8, 4) * spread ** 3
        from_another = multinomial(7, 8, 8, 4) * comb(4 + 8, 4) * spread ** 2
        many = from_0 + 3 * from_another
        self.assertGreater(many, 2 ** 64)
        self.assertEqual(tp_many(2, pieces), [0, many])

    def test_pieces_of_two_letters(self):
        # all 16 once: the known number of rounds of de Bruijn is 24 ** 4 // 16, each begins at 16 places
        self.assertEqual(tp_many(2, as_lists(product(range(4), repeat=2))), [0, 24 ** 4])


class NoText(unittest.TestCase):
    def test_pieces_that_do_not_hang_together(self):
        self.assertEqual(tp_many(2, [[0, 0], [1, 1]]), [0, 0])
        self.assertEqual(tp_many(2, [[0, 1], [1, 0], [2, 3], [3, 2]]), [0, 0])
        self.assertEqual(tp_many(2, [[0, 1], [2, 3]]), [0, 0])
        self.assertEqual(tp_many(3, [[0, 1, 2], [2, 1, 0]]), [0, 0])

    def test_a_way_beside_a_round(self):
        for pieces in ([[0, 1], [2, 2]], [[2, 2], [0, 1]], [[0, 1], [2, 3], [3, 2]], [[2, 3], [0, 1], [3, 2]]):
            self.assertEqual(tp_many(2, pieces), [0, 0])

    def test_three_rounds_apart(self):
        for pieces in ([[0, 0], [1, 1], [2, 3], [3, 2]], [[2, 3], [3, 2], [1, 1], [0, 0]]):
            self.assertEqual(tp_many(2, pieces), [0, 0])

    def test_too_many_first_or_last_points(self):
        self.assertEqual(tp_many(2, [[0, 1], [0, 2]]), [0, 0])
        self.assertEqual(tp_many(2, [[1, 0], [2, 0]]), [0, 0])
        self.assertEqual(tp_many(2, [[0, 1], [0, 2], [0, 3]]), [0, 0])
        self.assertEqual(tp_many(2, [[0, 1], [0, 1], [2, 1]]), [0, 0])

    def test_64_pieces_all_apart(self):
        pieces = [[number // 16, number // 4 % 4, number % 4] + [0, 1, 2, 3] * 11 + [0] for number in range(64)]
        self.assertEqual(tp_many(48, pieces), [0, 0])


class EndsOfWhatIsAllowed(unittest.TestCase):
    def test_one_piece(self):
        self.assertEqual(tp_many(2, [[1, 3]]), [0, 1])
        self.assertEqual(tp_many(2, [[1, 1]]), [0, 1])
        self.assertEqual(tp_many(48, [[0, 1, 2, 3] * 12]), [0, 1])
        self.assertEqual(tp_many(48, [[3] * 48]), [0, 1])

    def test_64_pieces_of_two_letters(self):
        self.assertEqual(tp_many(2, [[0, 0]] * 64), [0, 1])
        self.assertEqual(tp_many(2, [[0, 1], [1, 0]] * 32), [0, 2])
        pieces = Draws(5).mixed([[0, 0], [0, 1], [1, 0], [1, 1]] * 16)
        self.assertEqual(tp_many(2, pieces), [0, 2 * comb(32, 16) * comb(31, 15)])
        pieces = Draws(6).mixed(cut(2, Draws(7).letters(65, 2)))
        self.assertEqual(tp_many(2, pieces), [0, count_by_steps(pieces)])

    def test_64_pieces_of_48_letters(self):
        self.assertEqual(tp_many(48, [[2] * 48] * 64), [0, 1])
        self.assertEqual(tp_many(48, [[0, 1] * 24, [1, 0] * 24] * 32), [0, 2])
        self.assertEqual(tp_many(48, Draws(2).mixed(cut(48, Draws(3).letters(111)))), [0, 1])

    def test_64_pieces_of_48_letters_round(self):
        letters = Draws(4).letters(64)
        pieces = Draws(8).mixed(cut(48, letters + letters[:47]))
        self.assertEqual(tp_many(48, pieces), [0, 64])

    def test_48_letters_with_a_choice(self):
        zeros = [0] * 47
        self.assertEqual(tp_many(48, cut(48, zeros + [0, 1] + zeros)), [0, 49])
        pieces = cut(48, zeros + [0] * 5 + [1] + zeros + [0, 2])
        self.assertEqual(len(pieces), 55)
        self.assertEqual(tp_many(48, pieces), [0, 7])
        pieces = cut(48, zeros + [0] * 8 + [1] + zeros + [0] * 3 + [2, 3, 2, 3])
        self.assertEqual(len(pieces), 63)
        self.assertEqual(tp_many(48, pieces), [0, 12])

    def test_all_four_letters_are_allowed(self):
        self.assertEqual(tp_many(2, cut(2, [3, 2, 1, 0])), [0, 1])


class Refusals(unittest.TestCase):
    def test_no_pieces(self):
        for k in (0, 1, 2, 3, 48, 49, 4294967295):
            self.assertEqual(tp_many(k, []), [-22])

    def test_too_many_pieces(self):
        for k, pieces in heaps_of_too_many_pieces():
            self.assertEqual(tp_many(k, pieces), [-22])

    def test_lengths_that_are_not_allowed(self):
        for k, pieces in heaps_of_lengths_not_allowed():
            self.assertEqual(tp_many(k, pieces), [-22])

    def test_a_letter_above_3(self):
        for k, pieces in heaps_with_a_letter_above_3():
            self.assertEqual(tp_many(k, pieces), [-22])

    def test_a_letter_above_3_in_the_middle(self):
        pieces = cut(5, [0, 1, 2, 3] * 4)
        pieces[4][2] = 4
        self.assertEqual(tp_many(5, pieces), [-22])

    def test_letters_above_3_that_would_make_a_text(self):
        self.assertEqual(tp_many(2, [[4, 5], [5, 4]]), [-22])

    def test_a_letter_above_3_where_no_text_is(self):
        self.assertEqual(tp_many(2, [[0, 0], [1, 1], [2, 4]]), [-22])


class Calls(NothingChangedNothingKept, unittest.TestCase):
    function = staticmethod(tp_many)
    calls = (
        (2, cut(2, [0, 1, 0, 2, 0, 1, 1, 3])),
        (2, cut(2, [0, 1, 2, 0])),
        (2, [[0, 0], [1, 1]]),
        (48, [[2] * 48] * 64),
        (2, [[0, 4]]),
        (0, [[], [9]]),
        (2, []),
    )

    def test_arguments_go_by_their_names(self):
        self.assertEqual(tp_many(k=2, pieces=[[0, 1], [1, 0]]), [0, 2])


if __name__ == "__main__":
    unittest.main()
