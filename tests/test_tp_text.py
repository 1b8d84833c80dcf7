import os
import sys
import time
import unittest
from itertools import combinations_with_replacement, product
from math import comb

sys.path.insert(0, os.path.dirname(os.path.abspath(__file__)))

from cutpieces.desk import tp_many, tp_text
from plain import (Draws, NothingChangedNothingKept, amounts_of, as_lists, cut, heap, heaps_of_lengths_not_allowed,
                   heaps_of_too_many_pieces, heaps_with_a_letter_above_3, list_by_steps, multinomial,
                   number_by_steps, outermost_text, step_counter, texts_by_heap)

GREATEST = 2 ** 256 - 1
SECONDS = 5


class TextTest(unittest.TestCase):
    def check_all_texts(self, k, pieces, texts):
        """Every number from 0 on has its text, and the numbers behind the last have none."""
        for number, text in enumerate(texts):
            self.assertEqual(tp_text(k, number, pieces), [0] + text, (number, pieces))
        for number in (len(texts), len(texts) + 1, 2 * len(texts) + 1, GREATEST):
            self.assertEqual(tp_text(k, number, pieces), [-33], (number, pieces))

    def text_within_time(self, k, number, pieces):
        begun = time.process_time()
        answer = tp_text(k, number, pieces)
        self.assertLess(time.process_time() - begun, SECONDS)
        self.assertEqual(answer[0], 0)
        text = answer[1:]
        self.assertEqual(len(text), len(pieces) + k - 1)
        self.assertEqual(heap(cut(k, text)), heap(pieces))
        return text

    def check_very_many(self, k, pieces, many):
        """What can be seen without listing: the outermost texts, the order, and that each text has the pieces."""
        draws = Draws(len(pieces))
        between = [many * part // 7 + draws.below(1000) for part in range(1, 7)]
        numbers = sorted({0, 1, 2, many // 2 - 1, many // 2, many - 3, many - 2, many - 1, *between})
        texts = [self.text_within_time(k, number, pieces) for number in numbers]
        self.assertEqual(texts[0], outermost_text(pieces))
        self.assertEqual(texts[-1], outermost_text(pieces, last=True))
        for earlier, later in zip(texts, texts[1:]):
            self.assertLess(earlier, later)
        for number in (many, many + 1, GREATEST):
            self.assertEqual(tp_text(k, number, pieces), [-33])
        return numbers, texts


class OrdinaryInputs(TextTest):
    def test_one_text(self):
        self.check_all_texts(3, [[1, 2, 3], [0, 1, 2]], [[0, 1, 2, 3]])

    def test_two_rounds_in_either_order(self):
        pieces = [[0, 1], [1, 0], [0, 2], [2, 0], [0, 3]]
        self.check_all_texts(2, pieces, [[0, 1, 0, 2, 0, 3], [0, 2, 0, 1, 0, 3]])

    def test_order_of_the_pieces_does_not_matter(self):
        pieces = cut(2, [0, 1, 0, 2, 0, 1, 1, 3])
        texts = list_by_steps(pieces)
        self.assertGreater(len(texts), 1)
        for seed in range(10):
            self.check_all_texts(2, Draws(seed).mixed(pieces), texts)

    def test_every_heap_that_some_text_has(self):
        for k, most in ((2, 5), (3, 4), (4, 3), (5, 2)):
            for n in range(1, most + 1):
                for pieces, texts in texts_by_heap(k, n).items():
                    self.check_all_texts(k, as_lists(pieces), texts)

    def test_every_heap_there_is(self):
        for k, n in ((2, 1), (2, 2), (2, 3), (2, 4), (3, 1), (3, 2)):
            texts = texts_by_heap(k, n)
            for pieces in combinations_with_replacement(product(range(4), repeat=k), n):
                self.check_all_texts(k, as_lists(pieces), texts.get(pieces, []))

    def test_longer_texts_against_a_list_of_all(self):
        draws = Draws(1)
        for k, limit, length in ((2, 2, 14), (2, 3, 12), (3, 2, 17), (3, 4, 24), (4, 2, 22), (5, 2, 28), (9, 2, 60)):
            for _ in range(3):
                pieces = draws.mixed(cut(k, draws.letters(length, limit)))
                self.check_all_texts(k, pieces, list_by_steps(pieces))

    def test_longer_rounds_against_a_list_of_all(self):
        draws = Draws(2)
        for k, limit, length in ((2, 2, 13), (2, 4, 11), (3, 2, 16), (4, 2, 20), (5, 3, 30)):
            letters = draws.letters(length, limit)
            pieces = draws.mixed(cut(k, letters + letters[:k - 1]))
            self.check_all_texts(k, pieces, list_by_steps(pieces))

    def test_the_number_of_a_text_leads_to_it(self):
        draws = Draws(3)
        for k, limit, length in ((2, 2, 50), (2, 3, 26), (3, 2, 40), (3, 4, 30), (4, 2, 36), (5, 2, 44)):
            for _ in range(3):
                text = draws.letters(length, limit)
                pieces = draws.mixed(cut(k, text))
                self.assertEqual(tp_text(k, number_by_steps(k, text), pieces), [0] + text)


class NamedEdges(TextTest):
    def test_the_same_piece_twice(self):
        self.check_all_texts(2, [[0, 0], [0, 0]], [[0, 0, 0]])
        self.check_all_texts(2, [[0, 1], [0, 1], [1, 0]], [[0, 1, 0, 1]])
        self.check_all_texts(2, [[0, 1], [0, 1], [1, 0], [1, 0]], [[0, 1, 0, 1, 0], [1, 0, 1, 0, 1]])
        self.check_all_texts(2, cut(2, [0, 0, 1, 0, 0, 2]),
                             [[0, 0, 0, 1, 0, 2], [0, 0, 1, 0, 0, 2], [0, 1, 0, 0, 0, 2]])

    def test_the_same_round_twice(self):
        # beginning anew behind the first round gives the same text: 3 texts, not 6
        self.check_all_texts(2, cut(2, [2, 0, 1] * 2 + [2]),
                             [[0, 1, 2, 0, 1, 2, 0], [1, 2, 0, 1, 2, 0, 1], [2, 0, 1, 2, 0, 1, 2]])

    def test_a_text_that_ends_where_it_began(self):
        self.check_all_texts(2, cut(2, [1, 2, 0, 1]), [[0, 1, 2, 0], [1, 2, 0, 1], [2, 0, 1, 2]])
        self.check_all_texts(3, cut(3, [0, 0, 1, 1, 0, 0]),
                             [[0, 0, 1, 1, 0, 0], [0, 1, 1, 0, 0, 1], [1, 0, 0, 1, 1, 0], [1, 1, 0, 0, 1, 1]])
        self.check_all_texts(2, cut(2, [0, 1, 0, 2, 0]),
                             [[0, 1, 0, 2, 0], [0, 2, 0, 1, 0], [1, 0, 2, 0, 1], [2, 0, 1, 0, 2]])

    def test_a_way_that_comes_to_its_last_point_before_its_end(self):
        # behind 0 1 what is left goes round from 1 to 1, and not all of its pieces may come first
        self.check_all_texts(2, cut(2, [0, 1, 1, 0, 1]), [[0, 1, 0, 1, 1], [0, 1, 1, 0, 1]])
        # behind 0 1 at once what is left would be a round too, but one that doesn't come to 1
        self.check_all_texts(2, cut(2, [0, 3, 0, 1]), [[0, 3, 0, 1]])

    def test_a_choice_that_would_leave_a_round_behind(self):
        # 0 2 first would leave the round of 0 and 1 behind, 2 3 first that of 2 and 2
        self.check_all_texts(2, cut(2, [0, 1, 0, 2, 2, 3]), [[0, 1, 0, 2, 2, 3]])
        self.check_all_texts(2, cut(2, [3, 2, 3, 1, 1, 0]), [[3, 2, 3, 1, 1, 0]])

    def test_points_that_are_one_anothers(self):
        self.check_all_texts(2, [[1, 0], [0, 1]], [[0, 1, 0], [1, 0, 1]])
        self.check_all_texts(3, [[1, 0, 1], [0, 1, 0]], [[0, 1, 0, 1], [1, 0, 1, 0]])
        self.check_all_texts(4, [[0, 1, 0, 1], [1, 0, 1, 0], [0, 1, 0, 1]], [[0, 1, 0, 1, 0, 1]])

    def test_a_point_that_is_its_own(self):
        self.check_all_texts(2, [[3, 3]], [[3, 3]])
        self.check_all_texts(4, [[2] * 4] * 9, [[2] * 12])
        self.check_all_texts(2, [[1, 1], [0, 1], [0, 0]], [[0, 0, 1, 1]])

    def test_pieces_of_two_letters(self):
        pieces = Draws(4).mixed(as_lists(product(range(4), repeat=2)))
        numbers, texts = self.check_very_many(2, pieces, 24 ** 4)
        go_on = step_counter(pieces)
        self.assertEqual([number_by_steps(2, text, go_on) for text in texts], numbers)

    def test_pieces_of_two_letters_every_number(self):
        pieces = as_lists(product(range(3), repeat=2))
        texts = list_by_steps(pieces)
        self.assertEqual(len(texts), 6 ** 3)
        self.check_all_texts(2, pieces, texts)


class VeryManyTexts(TextTest):
    def test_all_pieces_of_three_letters(self):
        many = 24 ** 16
        self.assertGreater(many, 2 ** 64)
        pieces = Draws(5).mixed(as_lists(product(range(4), repeat=3)))
        self.check_very_many(3, pieces, many)

    def test_each_piece_of_a_round_is_first_equally_often(self):
        pieces = as_lists(product(range(4), repeat=3))
        share = 24 ** 16 // 64
        for place in (0, 1, 2, 31, 32, 62, 63):
            first = self.text_within_time(3, share * place, pieces)
            last = self.text_within_time(3, share * (place + 1) - 1, pieces)
            self.assertEqual((first[:3], last[:3]), (pieces[place], pieces[place]))
            self.assertLess(first, last)

    def test_numbers_beyond_64_bits_step_by_step(self):
        pieces = [[0, 0]] * 12 + [[0, 1], [1, 0], [0, 2], [2, 0]] * 9 + [[1, 1], [2, 2]] * 8
        self.assertEqual(len(pieces), 64)
        spread = comb(8 + 8, 8)
        from_0 = multinomial(12, 9, 9) * spread ** 2
        from_another = multinomial(12, 8, 9) * comb(8 + 9, 8) * spread
        many = from_0 + 2 * from_another
        self.assertGreater(many, 2 ** 64)
        numbers, texts = self.check_very_many(2, Draws(6).mixed(pieces), many)
        self.assertGreater(len([number for number in numbers if number > 2 ** 64]), 4)
        go_on = step_counter(pieces)
        self.assertEqual(go_on(None, amounts_of(pieces)), many)
        for number in (0, 1, from_0 - 1, from_0, from_0 + from_another - 1, from_0 + from_another, many - 1, 2 ** 64):
            text = self.text_within_time(2, number, pieces)
            self.assertEqual(number_by_steps(2, text, go_on), number)
        self.assertEqual([number_by_steps(2, text, go_on) for text in texts], numbers)

    def test_as_many_as_can_be(self):
        pieces = Draws(7).mixed(as_lists(product(range(4), repeat=2)) * 4)
        many = tp_many(2, pieces)[1]
        self.assertGreater(many, 2 ** 100)
        self.check_very_many(2, pieces, many)

    def test_a_way_that_ends_elsewhere(self):
        for seed, k in ((8, 2), (9, 3)):
            pieces = Draws(seed).mixed(cut(k, [1] + Draws(seed).letters(61 + k) + [3]))
            self.assertEqual(len(pieces), 64)
            self.check_very_many(k, pieces, tp_many(k, pieces)[1])

    def test_turned_letters_turn_the_order(self):
        draws = Draws(10)
        for k, limit in ((2, 2), (2, 3), (2, 4), (3, 4), (3, 2), (4, 2)):
            pieces = cut(k, draws.letters(63 + k, limit))
            turned = [[3 - letter for letter in piece] for piece in pieces]
            many = tp_many(k, pieces)[1]
            for number in (0, many // 5, many // 2, many * 3 // 4, many - 1):
                text = self.text_within_time(k, number, pieces)
                back = self.text_within_time(k, many - 1 - number, turned)
                self.assertEqual([3 - letter for letter in back], text)


class NoText(TextTest):
    heaps = (
        (2, [[0, 0], [1, 1]]),
        (2, [[0, 1], [1, 0], [2, 3], [3, 2]]),
        (2, [[0, 1], [2, 3]]),
        (2, [[0, 1], [2, 2]]),
        (2, [[2, 3], [0, 1], [3, 2]]),
        (2, [[0, 1], [0, 1]]),
        (2, [[0, 1], [0, 2]]),
        (2, [[1, 0], [2, 0]]),
        (2, [[0, 1], [0, 2], [0, 3]]),
        (2, [[0, 0], [1, 1]] * 32),
        (3, [[0, 1, 2], [2, 1, 0]]),
        (48, [[0] * 48, [1] * 48]),
        (48, [[number // 16, number // 4 % 4, number % 4] + [0, 1, 2, 3] * 11 + [0] for number in range(64)]),
    )

    def test_no_number_has_a_text(self):
        for k, pieces in self.heaps:
            for number in (0, 1, 2, 63, 64, 2 ** 63, 2 ** 64, GREATEST - 1, GREATEST):
                self.assertEqual(tp_text(k, number, pieces), [-33], pieces)


class EndsOfWhatIsAllowed(TextTest):
    def test_one_piece(self):
        for k, piece in ((2, [1, 3]), (2, [1, 1]), (2, [3, 0]), (48, [0, 1, 2, 3] * 12), (48, [3] * 48)):
            self.check_all_texts(k, [piece], [piece])

    def test_64_pieces_of_two_letters(self):
        self.check_all_texts(2, [[0, 0]] * 64, [[0] * 65])
        self.check_all_texts(2, [[1, 0], [0, 1]] * 32, [[0, 1] * 32 + [0], [1, 0] * 32 + [1]])
        pieces = Draws(11).mixed([[0, 0], [0, 1], [1, 0], [1, 1]] * 16)
        many = 2 * comb(32, 16) * comb(31, 15)
        self.check_very_many(2, pieces, many)
        # half of the texts begin with 0, and the first of the others has its 0s as early as can be
        zeros_first = [0] + [0] * 16 + [1, 0] * 15 + [1] * 17 + [0]
        self.assertEqual(tp_text(2, 0, pieces), [0] + zeros_first)
        self.assertEqual(tp_text(2, many // 2 - 1, pieces)[1], 0)
        self.assertEqual(tp_text(2, many // 2, pieces)[1], 1)

    def test_64_pieces_of_48_letters(self):
        self.check_all_texts(48, [[2] * 48] * 64, [[2] * 111])
        self.check_all_texts(48, [[1, 0] * 24, [0, 1] * 24] * 32, [([0, 1] * 56)[:111], ([1, 0] * 56)[:111]])
        text = Draws(12).letters(111)
        pieces = Draws(13).mixed(cut(48, text))
        self.assertEqual(self.text_within_time(48, 0, pieces), text)
        self.assertEqual(tp_text(48, 1, pieces), [-33])
        self.assertEqual(tp_text(48, GREATEST, pieces), [-33])

    def test_64_pieces_of_48_letters_round(self):
        letters = Draws(14).letters(64)
        pieces = Draws(15).mixed(cut(48, letters + letters[:47]))
        turns = sorted((letters[place:] + letters[:place]) + (letters * 2)[place:place + 47] for place in range(64))
        for number in (0, 1, 31, 32, 62, 63):
            self.assertEqual(self.text_within_time(48, number, pieces), turns[number])
        for number in (64, 65, GREATEST):
            self.assertEqual(tp_text(48, number, pieces), [-33])

    def test_48_letters_with_a_choice(self):
        zeros = [0] * 47
        pieces = Draws(16).mixed(cut(48, zeros + [0] * 8 + [1] + zeros + [0] * 4 + [2, 3, 2, 3]))
        self.assertEqual(len(pieces), 64)
        # the 12 pieces of zeros are spread over the two visits, the more of them on the first the earlier
        for number in range(13):
            text = zeros + [0] * (12 - number) + [1] + zeros + [0] * number + [2, 3, 2, 3]
            self.assertEqual(self.text_within_time(48, number, pieces), text)
        for number in (13, GREATEST):
            self.assertEqual(tp_text(48, number, pieces), [-33])

    def test_all_four_letters_are_allowed(self):
        self.check_all_texts(2, cut(2, [3, 2, 1, 0]), [[3, 2, 1, 0]])


class Refusals(unittest.TestCase):
    numbers = (0, 1, 2 ** 64, GREATEST)

    def check_refused(self, k, pieces):
        for number in self.numbers:
            self.assertEqual(tp_text(k, number, pieces), [-22], (k, number, pieces))

    def test_no_pieces(self):
        for k in (0, 1, 2, 3, 48, 49, 4294967295):
            self.check_refused(k, [])

    def test_too_many_pieces(self):
        for k, pieces in heaps_of_too_many_pieces():
            self.check_refused(k, pieces)

    def test_lengths_that_are_not_allowed(self):
        for k, pieces in heaps_of_lengths_not_allowed():
            self.check_refused(k, pieces)

    def test_a_letter_above_3(self):
        for k, pieces in heaps_with_a_letter_above_3():
            self.check_refused(k, pieces)

    def test_a_letter_above_3_in_the_middle(self):
        pieces = cut(5, [0, 1, 2, 3] * 4)
        pieces[4][2] = 4
        self.check_refused(5, pieces)

    def test_letters_above_3_that_would_make_a_text(self):
        self.check_refused(2, [[4, 5], [5, 4]])

    def test_a_letter_above_3_where_no_text_is(self):
        self.check_refused(2, [[0, 0], [1, 1], [2, 4]])


class Calls(NothingChangedNothingKept, unittest.TestCase):
    function = staticmethod(tp_text)
    calls = (
        (2, 1, cut(2, [0, 1, 0, 2, 0, 1, 1, 3])),
        (2, 0, cut(2, [0, 1, 0, 2, 0, 1, 1, 3])),
        (2, 2, cut(2, [0, 1, 2, 0])),
        (2, 3, cut(2, [0, 1, 2, 0])),
        (3, 2 ** 70, as_lists(product(range(4), repeat=3))),
        (2, 0, [[0, 0], [1, 1]]),
        (48, 0, [[2] * 48] * 64),
        (48, GREATEST, [[2] * 48] * 64),
        (2, 0, [[0, 4]]),
        (0, 0, [[], [9]]),
        (2, 0, []),
    )

    def test_changed_pieces_are_looked_at_anew(self):
        pieces = [[0, 1], [1, 2]]
        self.assertEqual(tp_text(2, 0, pieces), [0, 0, 1, 2])
        pieces[1][1] = 3
        self.assertEqual(tp_text(2, 0, pieces), [0, 0, 1, 3])

    def test_arguments_go_by_their_names(self):
        self.assertEqual(tp_text(k=2, number=1, pieces=[[0, 1], [1, 0]]), [0, 1, 0, 1])


if __name__ == "__main__":
    unittest.main()
