"""Players, hands and deals, with their texts."""

from finesse.cards import SUIT_LETTERS, card_of, card_text, cards_of, check_deck
from finesse.cards import count_cards, mask_of, of_suit, rank_of, read_card, suit_of
from finesse.errors import InvalidDeal, InvalidText

PLAYERS = 4
POINTS_OF_HIGHEST = 4


def next_player(player):
    """Return the player who follows."""
    return (player + 1) % PLAYERS


def partner_of(player):
    """Return the other player of the same side."""
    return (player + 2) % PLAYERS


def side_of(player):
    """Return the side of a player."""
    return player % 2


def check_deal(deck, hands):
    """Raise InvalidDeck or InvalidDeal if the hands are not a deal of a deck."""
    check_deck(deck)
    if not _is_deal(deck, hands):
        raise InvalidDeal("these hands are not a deal of the deck")


def hand_text(deck, hand):
    """Return the signs of the cards of each suit, the last suit first."""
    parts = []
    for suit in reversed(range(deck[0])):
        cards = cards_of(of_suit(deck, hand, suit))
        signs = [card_text(deck, card)[1] for card in reversed(cards)]
        parts.append("".join(signs))
    return ".".join(parts)


def deal_text(deck, hands):
    """Return the texts of the four hands with spaces between them."""
    return " ".join([hand_text(deck, hand) for hand in hands])


def read_hand(deck, text):
    """Return the hand with a text; raise InvalidText if there is none."""
    parts = text.split(".")
    if len(parts) != deck[0]:
        raise InvalidText("a hand has one part for each suit")
    hand = 0
    for suit, signs in enumerate(reversed(parts)):
        hand |= _read_suit(deck, suit, signs)
    return hand


def read_deal(deck, text):
    """Return the deal with a text; raise InvalidText if there is none."""
    words = text.split(" ")
    if len(words) != PLAYERS:
        raise InvalidText("a deal has four hands")
    hands = tuple([read_hand(deck, word) for word in words])
    if not _is_deal(deck, hands):
        raise InvalidText("these hands are not a deal of the deck")
    return hands


def lengths(deck, hand):
    """Return how many cards a hand has in each suit."""
    return [count_cards(of_suit(deck, hand, suit)) for suit in range(deck[0])]


def points(deck, hand):
    """Return the sum of the points of the high cards of a hand."""
    total = 0
    for card in cards_of(hand):
        ranks_above = deck[1] - 1 - rank_of(deck, card)
        total += max(0, POINTS_OF_HIGHEST - ranks_above)
    return total


def is_balanced(deck, hand):
    """Return True if the lengths of any two suits differ by one at most."""
    counts = lengths(deck, hand)
    return max(counts) - min(counts) < 2


def turned(hands, by):
    """Return the deal in which each hand is `by` players further."""
    return tuple([hands[(player - by) % PLAYERS] for player in range(PLAYERS)])


def holder_of(hands, card):
    """Return the player who has a card, or -1."""
    for player, hand in enumerate(hands):
        if hand >> card & 1:
            return player
    return -1


def squeezed(deck, hands):
    """Return the least deck, and the deal in it without gaps below the highest ranks."""
    in_play = hands[0] | hands[1] | hands[2] | hands[3]
    small = (deck[0], max(1, max(lengths(deck, in_play))))
    moved = _moved_up(deck, in_play, small)
    moved_hands = [mask_of([moved[card] for card in cards_of(hand)]) for hand in hands]
    return small, tuple(moved_hands)


def _is_deal(deck, hands):
    size = count_cards(hands[0])
    given = 0
    for hand in hands:
        if count_cards(hand) != size or hand & given:
            return False
        given |= hand
    beyond = given >> (deck[0] * deck[1])
    return size > 0 and beyond == 0


def _read_suit(deck, suit, signs):
    """Return the mask of the cards of a suit with these signs, which have to fall."""
    cards = [read_card(deck, SUIT_LETTERS[suit] + sign) for sign in signs]
    for k in range(1, len(cards)):
        if cards[k] >= cards[k - 1]:
            raise InvalidText("the signs go from the highest to the lowest")
    return mask_of(cards)


def _moved_up(deck, in_play, small):
    """Return the dict from each card in play to its card in the small deck."""
    moved = {}
    ranks = [small[1]] * deck[0]
    for card in reversed(cards_of(in_play)):
        suit = suit_of(deck, card)
        ranks[suit] -= 1
        moved[card] = card_of(small, suit, ranks[suit])
    return moved
