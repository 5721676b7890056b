"""Fits of views by going through them, and views that the tests go through."""

import random
from fractions import Fraction
from itertools import combinations

from tests.naive import members
from tests.naive_play import suit


def plain_fits(view):
    """All fits by point 10.1, in their order."""
    deck, known, counts, pool, barred = view
    found = [((), members(pool))]
    for player in range(4):
        later = []
        for given, free in found:
            allowed = [card for card in free if not barred[player] >> suit(deck, card) & 1]
            for cards in combinations(allowed, counts[player]):
                later.append((given + (list(cards),), [card for card in free if card not in cards]))
        found = later
    keys = sorted(given for given, _ in found)
    return [tuple(sum(2 ** card for card in cards) + known[player] for player, cards in enumerate(key)) for key in keys]


def some_views(count, seed, most_further=6):
    """Views of all kinds, the same at every run, with few enough fits to go through them."""
    numbers = random.Random(seed)
    views = []
    while len(views) < count:
        deck = numbers.choice([(1, 4), (1, 9), (2, 3), (2, 5), (3, 3), (4, 2), (4, 4), (4, 13)])
        total = deck[0] * deck[1]
        places = [numbers.choice([0, 1, 2, 3, 4, 4, 4, 5, 5]) for _ in range(total)]
        pool_cards = [card for card in range(total) if places[card] == 4][:7]
        counts = [numbers.choice([0, 0, 1, 1, 2, 3]) for _ in range(4)]
        if sum(counts) <= min(len(pool_cards), most_further):
            known = tuple(sum(2 ** card for card in range(total) if places[card] == player) for player in range(4))
            barred = tuple(numbers.randrange(2 ** deck[0]) if numbers.random() < 0.5 else 0 for _ in range(4))
            views.append((deck, known, tuple(counts), sum(2 ** card for card in pool_cards), barred))
    return views


def lowest(part, whole):
    value = Fraction(part, whole)
    return (value.numerator, value.denominator)
