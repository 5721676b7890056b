"""Slow and plain ways to the same answers, and the decks and masks that the tests go through."""

from itertools import product

SUITS = "cdhs"
RANKS = "23456789tjqka"


def all_decks():
    return [(suits, ranks) for suits in range(1, 5) for ranks in range(1, 14)]


def cards_in(deck):
    return list(range(deck[0] * deck[1]))


def some_hands(deck):
    """The empty hand, the full one, every card alone, and hands that follow a pattern."""
    total = deck[0] * deck[1]
    full = 2 ** total - 1
    hands = [0, full] + [2 ** card for card in range(total)]
    hands += [full - 2 ** card for card in range(total)]
    hands += [7 ** k * 1234567891234567 % (full + 1) for k in range(1, 30)]
    return hands


def members(mask):
    return [card for card, bit in enumerate(reversed(bin(mask)[2:])) if bit == "1"]


def hand_words(deck, hand):
    suits, ranks = deck
    signs = RANKS[13 - ranks:]
    cards = members(hand)
    parts = []
    for suit in range(suits - 1, -1, -1):
        part = ""
        for rank in range(ranks - 1, -1, -1):
            if suit * ranks + rank in cards:
                part += signs[rank]
        parts.append(part)
    return ".".join(parts)


def deal_words(deck, hands):
    return " ".join(hand_words(deck, hand) for hand in hands)


def all_deals(deck, size):
    """All deals in their order, found by giving each card to each player or to nobody."""
    keys = []
    for holders in product(range(5), repeat=deck[0] * deck[1]):
        if all(holders.count(player) == size for player in range(4)):
            keys.append(deal_key_of_holders(holders))
    return [tuple(sum(2 ** card for card in cards) for cards in key) for key in sorted(keys)]


def deal_key_of_holders(holders):
    return [[card for card, holder in enumerate(holders) if holder == player] for player in range(4)]


def deal_key(hands):
    return [members(hand) for hand in hands]


def pascal(most):
    """The triangle of Pascal: rows[n][k] sets of k of n things."""
    rows = [[1]]
    for n in range(1, most + 1):
        above = rows[-1] + [0]
        rows.append([1] + [above[k - 1] + above[k] for k in range(1, n + 1)])
    return rows


def set_number(rows, total, numbers):
    """Count the lists before `numbers`, member by member."""
    before = 0
    least = 0
    for place, member in enumerate(numbers):
        wanted = len(numbers) - place - 1
        for smaller in range(least, member):
            things = total - 1 - smaller
            before += rows[things][wanted] if wanted <= things else 0
        least = member + 1
    return before


def edits(text, signs):
    """All texts that one changed, missing, added or exchanged sign makes of a text."""
    found = {text}
    for at in range(len(text) + 1):
        for sign in signs:
            found.add(text[:at] + sign + text[at:])
            found.add(text[:at] + sign + text[at + 1:])
        found.add(text[:at] + text[at + 1:])
        if 0 < at < len(text):
            found.add(text[:at - 1] + text[at] + text[at - 1] + text[at + 1:])
    return sorted(found)
