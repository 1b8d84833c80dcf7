"""The three functions together: what tp_cut gives of a text, tp_many counts and tp_text leads back from."""

import copy
import os
import sys
import unittest
from itertools import product

sys.path.insert(0, os.path.dirname(os.path.abspath(__file__)))

from cutpieces.desk import tp_cut, tp_many, tp_text
from plain import Draws, as_lists, guarded, heap, number_by_steps, split

LENGTHS = (2, 3, 4, 5, 10, 47, 48)


def closed(k, letters):
    """The letters as a round: a text that ends with the k - 1 letters it began with."""
    return letters + (letters * k)[:k - 1]


class TogetherTest(unittest.TestCase):
    def pieces_of(self, k, text):
        answer = tp_cut(k, guarded(text))
        self.assertEqual(answer[0], len(text) - k + 1)
        self.assertEqual(len(answer), 1 + answer[0] * k)
        return split(k, answer[1:])

    def orders_of(self, pieces):
        orders = [pieces, pieces[::-1], sorted(pieces), Draws(len(pieces)).mixed(pieces)]
        return [guarded(order) for order in orders]

    def many_in_each_order(self, k, orders):
        answers = [tp_many(k, order) for order in orders]
        self.assertEqual(answers, [answers[0]] * len(orders))
        self.assertEqual(len(answers[0]), 2)
        self.assertEqual(answers[0][0], 0)
        self.assertGreaterEqual(answers[0][1], 1)
        return answers[0][1]

    def text_of(self, k, number, pieces):
        """The text of the number, which must have the pieces, by tp_cut."""
        answer = tp_text(k, number, pieces)
        self.assertEqual(answer[0], 0)
        self.assertEqual(heap(self.pieces_of(k, answer[1:])), heap(pieces))
        return answer[1:]

    def check_every_number(self, k, text):
        pieces = self.pieces_of(k, text)
        orders = self.orders_of(pieces)
        many = self.many_in_each_order(k, orders)
        # the orders take turns, so that each number is asked for once and each order now and then
        texts = [self.text_of(k, number, orders[number % len(orders)]) for number in range(many)]
        self.assertEqual(texts.count(text), 1, (k, text))
        for order in orders:
            self.assertEqual(tp_text(k, texts.index(text), order), [0] + text)
            self.assertEqual(tp_text(k, many, order), [-33])
        return many

    def number_of(self, k, text, many, pieces):
        """The number of a text among the many, by halving: they are in order."""
        least, most = 0, many - 1
        while least < most:
            middle = (least + most) // 2
            if self.text_of(k, middle, pieces) < text:
                least = middle + 1
            else:
                most = middle
        return least

    def check_its_number(self, k, text):
        pieces = self.pieces_of(k, text)
        orders = self.orders_of(pieces)
        many = self.many_in_each_order(k, orders)
        number = self.number_of(k, text, many, orders[-1])
        for order in orders:
            self.assertEqual(tp_text(k, number, order), [0] + text)
        for other in sorted({0, number - 1, number + 1, many // 2, many - 1} - {-1, number, many}):
            found = self.text_of(k, other, orders[0])
            self.assertEqual((found < text, found > text), (other < number, other > number))
        self.assertEqual(tp_text(k, many, orders[0]), [-33])
        return number


class ShortTexts(TogetherTest):
    def test_every_text_of_few_letters(self):
        for k, most in ((2, 5), (3, 5), (4, 6)):
            for length in range(k, most + 1):
                for text in product(range(4), repeat=length):
                    self.check_every_number(k, list(text))

    def test_the_texts_of_the_same_pieces_are_just_those(self):
        # each of them leads to the same heap, so each is one of as many, at a number of its own
        for text in ([0, 1, 0, 2, 0, 3, 0], [1, 1, 0, 1, 2, 1], [0, 0, 1, 0, 0, 2, 0]):
            pieces = self.pieces_of(2, text)
            many = self.check_every_number(2, text)
            for number in range(many):
                other = self.text_of(2, number, pieces)
                self.assertEqual(self.check_every_number(2, other), many)

    def test_one_and_two_pieces(self):
        draws = Draws(1)
        for k in range(2, 49):
            for length in (k, k + 1):
                self.check_every_number(k, draws.letters(length))
                self.check_every_number(k, draws.letters(length, 2))

    def test_longer_texts_where_all_numbers_can_be_gone_through(self):
        draws = Draws(2)
        for k, limit, length in ((2, 2, 14), (2, 4, 11), (3, 2, 17), (3, 4, 20), (4, 2, 22), (5, 2, 26), (9, 2, 50)):
            for _ in range(3):
                self.check_every_number(k, draws.letters(length, limit))


class TheSamePieceTwice(TogetherTest):
    def test_short(self):
        for k, text in ((2, [0, 0, 0]), (2, [0, 1, 0, 1]), (2, [0, 0, 0, 1, 0, 2]), (2, [3, 1, 2, 3, 1, 0, 3, 1]),
                        (3, [0, 1, 0, 1, 0]), (3, [2, 2, 1, 0, 2, 2, 1]), (5, [1, 0, 1, 0, 1, 0, 1, 0, 2])):
            pieces = self.pieces_of(k, text)
            self.assertLess(len(set(heap(pieces))), len(pieces))
            self.check_every_number(k, text)

    def test_64_pieces(self):
        for k, text in ((2, [0, 1, 2] * 21 + [0, 3]), (3, [0, 1, 1] * 22), (48, [0, 1, 2] * 37)):
            self.assertEqual(len(text), 63 + k)
            self.check_every_number(k, text)

    def test_64_pieces_spread_over_visits(self):
        self.check_every_number(2, [0] * 40 + [1] + [0] * 23 + [2])
        self.check_every_number(48, [0] * 55 + [1] + [0] * 51 + [2, 3, 2, 3])


class EndingWhereItBegan(TogetherTest):
    def test_short(self):
        draws = Draws(3)
        for k, limit, length in ((2, 2, 10), (2, 4, 9), (3, 2, 12), (3, 4, 14), (4, 2, 15), (5, 3, 20), (48, 2, 9)):
            for _ in range(3):
                text = closed(k, draws.letters(length, limit))
                self.assertEqual(text[:k - 1], text[-(k - 1):])
                self.check_every_number(k, text)

    def test_64_pieces(self):
        draws = Draws(4)
        for k, limit in ((2, 4), (3, 4), (4, 2), (5, 4), (48, 4)):
            text = closed(k, draws.letters(64, limit))
            self.assertEqual(len(text), 63 + k)
            self.check_its_number(k, text)

    def test_64_pieces_of_48_letters_every_number(self):
        self.assertEqual(self.check_every_number(48, closed(48, Draws(5).letters(64))), 64)

    def test_the_same_round_several_times(self):
        # no point is passed twice in one round, so a text can only begin elsewhere in it
        for k, letters in ((2, [0, 1]), (3, [0, 0, 1, 1]), (10, [0] * 7 + [1]), (48, [0] * 15 + [1])):
            text = closed(k, letters * (64 // len(letters)))
            self.assertEqual(self.check_every_number(k, text), len(letters))


class OneLetterAlone(TogetherTest):
    def test_there_is_no_other_text(self):
        for k in LENGTHS:
            for letter in range(4):
                for many in (1, 2, 63, 64):
                    self.assertEqual(self.check_every_number(k, [letter] * (many + k - 1)), 1)


class TextsOf64Pieces(TogetherTest):
    def test_letters_by_lot(self):
        draws = Draws(6)
        for k, limit in product(LENGTHS, (2, 3, 4)):
            self.check_its_number(k, draws.letters(63 + k, limit))

    def test_numbers_beyond_64_bits(self):
        text = Draws(7).mixed([0, 1, 2, 3] * 16) + [0]
        number = self.check_its_number(2, text)
        self.assertGreater(number, 2 ** 64)

    def test_the_number_is_that_of_plain_counting(self):
        # few kinds of pieces: plain counting takes long where there are many
        for k, text in ((2, Draws(8).letters(65, 2)), (3, [0, 0, 1] * 10 + [0] * 20 + [1] * 16)):
            self.assertEqual(len(text), 63 + k)
            number = self.check_its_number(k, text)
            self.assertGreater(number, 2 ** 16)
            self.assertEqual(number, number_by_steps(k, text))

    def test_all_pieces_of_three_letters(self):
        # a text that has each of the 64 once: at each step the greatest letter whose piece is still to come
        text = [0, 0]
        while len(text) < 66:
            pieces = self.pieces_of(3, text) if len(text) > 2 else []
            text = text + [max(letter for letter in range(4) if text[-2:] + [letter] not in pieces)]
        self.assertEqual(heap(self.pieces_of(3, text)), tuple(product(range(4), repeat=3)))
        self.check_its_number(3, text)


class CallsOfTheOthersBetween(unittest.TestCase):
    text = [0, 1, 0, 2, 0, 1, 1, 3]
    pieces = split(2, [0, 1, 1, 0, 0, 2, 2, 0, 0, 1, 1, 1, 1, 3])
    rounds = as_lists(product(range(4), repeat=3))

    def calls(self):
        return (
            (tp_cut, 2, self.text), (tp_many, 2, self.pieces), (tp_text, 2, 1, self.pieces),
            (tp_cut, 3, self.text), (tp_text, 2, 99, self.pieces), (tp_many, 3, self.rounds),
            (tp_text, 3, 2 ** 70, self.rounds), (tp_cut, 9, self.text), (tp_many, 2, []),
            (tp_cut, 2, [0, 4]), (tp_text, 2, 0, [[0, 4]]), (tp_many, 2, [[0, 0], [1, 1]]),
            (tp_cut, 48, [2] * 111), (tp_text, 48, 0, [[2] * 48] * 64), (tp_cut, 49, [2] * 111),
        )

    def test_a_second_call_answers_as_the_first(self):
        calls = self.calls()
        first = [function(*handed) for function, *handed in calls]
        draws = Draws(9)
        for _ in range(5):
            for place in draws.mixed(range(len(calls))):
                function, *handed = calls[place]
                self.assertEqual(function(*handed), first[place], calls[place])

    def test_what_is_handed_to_one_after_another_is_the_same_afterwards(self):
        before = copy.deepcopy(self.calls())
        for function, *handed in self.calls():
            function(*handed)
        self.assertEqual(self.calls(), before)

    def test_an_answer_stays_as_it_is_while_others_are_asked(self):
        answer = tp_cut(2, self.text)
        self.assertEqual(split(2, answer[1:]), self.pieces)
        kept = list(answer)
        for function, *handed in self.calls():
            function(*handed)
        self.assertEqual(answer, kept)


if __name__ == "__main__":
    unittest.main()
