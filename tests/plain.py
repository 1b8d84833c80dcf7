"""Plain ways to cut and to count, to hold the program against."""

from collections import Counter
from functools import lru_cache
from itertools import product


def cut(k, text):
    return [list(text[place:place + k]) for place in range(len(text) - k + 1)]


def heap(pieces):
    return tuple(sorted(tuple(piece) for piece in pieces))


def texts_by_heap(k, n):
    """How many texts have each heap of n pieces of length k, by going through all texts."""
    return Counter(heap(cut(k, text)) for text in product(range(4), repeat=n + k - 1))


def count_by_steps(pieces):
    """How many texts have the pieces, by laying one piece behind another."""
    left = Counter(heap(pieces))
    kinds = sorted(left)

    @lru_cache(maxsize=None)
    def go_on(end, amounts):
        if not any(amounts):
            return 1
        many = 0
        for place, kind in enumerate(kinds):
            if amounts[place] and (end is None or kind[:-1] == end):
                rest = amounts[:place] + (amounts[place] - 1,) + amounts[place + 1:]
                many += go_on(kind[1:], rest)
        return many

    return go_on(None, tuple(left[kind] for kind in kinds))


class Draws:
    """Letters that look drawn by lot, the same ones at each run."""

    def __init__(self, seed):
        self.state = seed

    def below(self, limit):
        self.state = (self.state * 6364136223846793005 + 1442695040888963407) % 2 ** 64
        return (self.state >> 33) % limit

    def letters(self, many, limit=4):
        return [self.below(limit) for _ in range(many)]

    def mixed(self, things):
        things = list(things)
        for place in range(len(things) - 1, 0, -1):
            other = self.below(place + 1)
            things[place], things[other] = things[other], things[place]
        return things
