"""Decks, their cards, and sets of cards written as masks."""

from finesse.errors import InvalidDeck, InvalidText

SUIT_LETTERS = "cdhs"
RANK_SIGNS = "23456789tjqka"


def check_deck(deck):
    """Raise InvalidDeck if a tuple of two integers is not a deck."""
    suits, ranks = deck
    if not 1 <= suits <= len(SUIT_LETTERS):
        raise InvalidDeck("a deck has 1 to 4 suits")
    if not 1 <= ranks <= len(RANK_SIGNS):
        raise InvalidDeck("a deck has 1 to 13 ranks")


def suit_of(deck, card):
    """Return the suit of a card."""
    return card // deck[1]


def rank_of(deck, card):
    """Return the rank of a card."""
    return card % deck[1]


def card_of(deck, suit, rank):
    """Return the card with a suit and a rank."""
    return suit * deck[1] + rank


def card_text(deck, card):
    """Return the letter of the suit and the sign of the rank."""
    signs = _signs(deck)
    return SUIT_LETTERS[suit_of(deck, card)] + signs[rank_of(deck, card)]


def read_card(deck, text):
    """Return the card with a text; raise InvalidText if there is none."""
    if len(text) != 2:
        raise InvalidText("a card is a letter and a sign")
    suit = SUIT_LETTERS[:deck[0]].find(text[0])
    rank = _signs(deck).find(text[1])
    if suit < 0 or rank < 0:
        raise InvalidText("the deck has no such card")
    return card_of(deck, suit, rank)


def cards_of(mask):
    """Return the ascending list of the cards in a mask."""
    cards = []
    while mask:
        card = (mask & -mask).bit_length() - 1
        cards.append(card)
        mask ^= 1 << card
    return cards


def mask_of(cards):
    """Return the mask of a list of cards."""
    mask = 0
    for card in cards:
        mask |= 1 << card
    return mask


def count_cards(mask):
    """Return how many cards a mask has."""
    return f"{mask:b}".count("1")


def of_suit(deck, mask, suit):
    """Return the mask of those cards of a mask that belong to a suit."""
    whole_suit = (1 << deck[1]) - 1
    return mask & (whole_suit << card_of(deck, suit, 0))


def _signs(deck):
    """Return the signs of the ranks of a deck, the lowest rank first."""
    # The highest rank is always the ace, so short decks lose the low signs.
    return RANK_SIGNS[len(RANK_SIGNS) - deck[1]:]
