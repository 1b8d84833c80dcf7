"""Plain ways to cut, to count and to list texts, to hold the program against, and checks of every function's calls."""

import contextlib
import copy
import io
from collections import Counter
from functools import lru_cache
from itertools import product
from math import factorial


def cut(k, text):
    return [list(text[place:place + k]) for place in range(len(text) - k + 1)]


def split(k, numbers):
    """The pieces that stand one behind another without lengths."""
    return [numbers[place:place + k] for place in range(0, len(numbers), k)]


def heap(pieces):
    return tuple(sorted(tuple(piece) for piece in pieces))


def as_lists(pieces):
    return [list(piece) for piece in pieces]


def multinomial(*parts):
    many = factorial(sum(parts))
    for part in parts:
        many //= factorial(part)
    return many


def texts_by_heap(k, n):
    """The texts of each heap of n pieces of length k, in order, by going through all texts."""
    texts = {}
    for text in product(range(4), repeat=n + k - 1):
        texts.setdefault(heap(cut(k, text)), []).append(list(text))
    return texts


def step_counter(pieces):
    """A function that tells how many ways there are to lay the amounts left of each kind behind an end."""
    kinds = sorted(set(heap(pieces)))

    @lru_cache(maxsize=None)
    def go_on(end, amounts):
        if not any(amounts):
            return 1
        many = 0
        for place, kind in enumerate(kinds):
            if amounts[place] and (end is None or kind[:-1] == end):
                rest = amounts[:place] + (amounts[place] - 1,) + amounts[place + 1:]
                many += go_on(kind[1:], rest)
        return many

    return go_on


def amounts_of(pieces):
    left = Counter(heap(pieces))
    return tuple(left[kind] for kind in sorted(left))


def count_by_steps(pieces):
    """How many texts have the pieces, by laying one piece behind another."""
    return step_counter(pieces)(None, amounts_of(pieces))


def number_by_steps(k, text, go_on=None):
    """The number of a text among those that have its pieces: how many of them are earlier, step by step."""
    pieces = [tuple(piece) for piece in cut(k, text)]
    go_on = go_on or step_counter(pieces)
    left = Counter(pieces)
    kinds = sorted(left)
    earlier = 0
    end = None
    for piece in pieces:
        for kind in kinds:
            if kind < piece and left[kind] and (end is None or kind[:-1] == end):
                earlier += go_on(kind[1:], tuple(left[other] - (other == kind) for other in kinds))
        left[piece] -= 1
        end = piece[1:]
    return earlier


def list_by_steps(pieces):
    """All texts that have the pieces, in order, by laying one piece behind another."""
    left = Counter(heap(pieces))
    texts = []

    def go_on(text, end, missing):
        if not missing:
            texts.append(text)
        for kind in sorted(left):
            if left[kind] and (end is None or kind[:-1] == end):
                left[kind] -= 1
                go_on(list(kind) if end is None else text + [kind[-1]], kind[1:], missing - 1)
                left[kind] += 1

    go_on([], None, len(pieces))
    return texts


def can_be_laid(point, left):
    """Whether some way from the point uses all that is left: the ends match, and all hangs together."""
    surplus = Counter({point: 1})
    ways = {}
    for kind in +left:
        surplus[kind[:-1]] -= left[kind]
        surplus[kind[1:]] += left[kind]
        ways.setdefault(kind[:-1], []).append(kind[1:])
    uneven = sorted(more for more in surplus.values() if more)
    reached, waiting = {point}, [point]
    while waiting:
        for goal in ways.get(waiting.pop(), ()):
            if goal not in reached:
                reached.add(goal)
                waiting.append(goal)
    return uneven == [1] and all(start in reached for start in ways)


def outermost_text(pieces, last=False):
    """The first text that has the pieces, or the last one, without any counting; there must be one."""
    left = Counter(heap(pieces))
    text = []
    end = None
    while +left:
        for kind in sorted(+left, reverse=last):
            left[kind] -= 1
            if (end is None or kind[:-1] == end) and can_be_laid(kind[1:], left):
                break
            left[kind] += 1
        text = list(kind) if end is None else text + [kind[-1]]
        end = kind[1:]
    return text


def heaps_of_too_many_pieces():
    for n in (65, 70):
        for k in (0, 1, 2, 48, 49, 4294967295):
            for piece in ([], [0] * 2, [0] * 48, [255] * 60, [4]):
                yield k, [piece] * n
        yield 2, ([[], [7], [0, 1], [1, 2, 3]] * 18)[:n]


def heaps_of_lengths_not_allowed():
    for k in (0, 1, 49, 50, 258, 65538, 2147483650, 4294967295):
        for pieces in ([[]], [[255] * 60], [[0, 1]], [[0, 1], [], [4], [1, 2, 3]], [[0] * 48] * 64):
            yield k, pieces
        if k < 50:
            yield k, [[0] * k]
            yield k, [[0] * k] * 64


def heaps_with_a_letter_above_3():
    for k, n, letter in product((2, 3, 48), (1, 2, 64), (4, 255)):
        for piece, place in product((0, n - 1), (0, k - 1)):
            pieces = [[0] * k for _ in range(n)]
            pieces[piece][place] = letter
            yield k, pieces


class Unchanging(list):
    """A list that takes no change, not for a while either."""

    def refuse(self, *args, **kwargs):
        raise AssertionError("what was handed in was changed")

    append = extend = insert = remove = pop = clear = sort = reverse = refuse
    __setitem__ = __delitem__ = __iadd__ = __imul__ = refuse


def guarded(thing):
    """The same lists within lists, none of which takes a change."""
    return Unchanging(guarded(inner) for inner in thing) if isinstance(thing, list) else thing


class Unseen(Unchanging):
    """A list that must not be looked at."""

    def hide(self, *args):
        raise AssertionError("what is not to be looked at was looked at")

    __len__ = __getitem__ = __iter__ = __reversed__ = __contains__ = __eq__ = __add__ = __mul__ = count = index = hide


class NothingChangedNothingKept:
    """What holds for every function; a test class names the function and calls of it, what it's handed in each."""

    function = None
    calls = ()

    def test_what_is_handed_in_is_the_same_afterwards(self):
        for call in self.calls:
            before = copy.deepcopy(call)
            self.function(*call)
            self.assertEqual(call, before)

    def test_what_is_handed_in_is_not_changed_for_a_while(self):
        for call in self.calls:
            self.assertEqual(self.function(*[guarded(thing) for thing in call]), self.function(*call))

    def test_a_second_call_answers_as_the_first(self):
        first = [self.function(*call) for call in self.calls]
        again = [self.function(*call) for call in reversed(self.calls)]
        self.assertEqual(first, again[::-1])

    def test_a_changed_answer_does_not_come_back(self):
        for call in self.calls:
            answer = self.function(*call)
            kept = list(answer)
            answer.append(5)
            answer[0] = 77
            self.assertEqual(self.function(*call), kept)

    def test_answers_are_lists_of_whole_numbers(self):
        for call in self.calls:
            answer = self.function(*call)
            self.assertIs(type(answer), list)
            self.assertEqual([type(number) for number in answer], [int] * len(answer))

    def test_it_prints_nothing(self):
        out, err = io.StringIO(), io.StringIO()
        with contextlib.redirect_stdout(out), contextlib.redirect_stderr(err):
            for call in self.calls:
                self.function(*call)
        self.assertEqual((out.getvalue(), err.getvalue()), ("", ""))


class Draws:
    """Letters that look drawn by lot, the same ones at each run."""

    def __init__(self, seed):
        self.state = seed

    def below(self, limit):
        self.state = (self.state * 6364136223846793005 + 1442695040888963407) % 2 ** 64
        return (self.state >> 33) % limit

    def letters(self, many, limit=4):
        return [self.below(limit) for _ in range(many)]

    def mixed(self, things):
        things = list(things)
        for place in range(len(things) - 1, 0, -1):
            other = self.below(place + 1)
            things[place], things[other] = things[other], things[place]
        return things
