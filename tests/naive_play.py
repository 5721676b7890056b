"""The rules of play in plain words, on lists of cards, and shares by going through all plays."""

from finesse.numbering import count_deals, deal_of_number
from finesse.play import Play

from tests.naive import members

PLAY_DECKS = [((1, 4), 1), ((1, 5), 1), ((2, 2), 1), ((4, 1), 1), ((3, 2), 1), ((2, 4), 2), ((4, 2), 2),
           ((1, 9), 2), ((3, 3), 2), ((3, 4), 3), ((4, 3), 3), ((2, 7), 3), ((1, 13), 3), ((4, 13), 2)]


def some_deals(deck, size, count, step=1):
    """Deals that are the same at every run, and scattered over all of them."""
    total = count_deals(deck, size)
    return [deal_of_number(deck, size, (k * 7919 * step + k * total // count) % total) for k in range(count)]


def trumps_of(deck):
    return list(range(-1, deck[0]))


def suit(deck, card):
    return card // deck[1]


def plain_winner(deck, trump, leader, cards):
    trumps = [card for card in cards if suit(deck, card) == trump]
    following = [card for card in cards if suit(deck, card) == suit(deck, cards[0])]
    return (leader + cards.index(max(trumps or following))) % 4


def plain_turn(position):
    return (position[2] + len(position[3])) % 4


def plain_legal(deck, position):
    _, hands, _, led = position
    cards = members(hands[plain_turn(position)])
    following = [card for card in cards if led and suit(deck, card) == suit(deck, led[0])]
    return following or cards


def plain_after(deck, position, card):
    trump, hands, leader, led = position
    player = plain_turn(position)
    fewer = tuple(hand - 2 ** card if place == player else hand for place, hand in enumerate(hands))
    if len(led) < 3:
        return (trump, fewer, leader, led + (card,))
    return (trump, fewer, plain_winner(deck, trump, leader, list(led) + [card]), ())


def plain_left(position):
    return max(len(members(hand)) for hand in position[1])


def plain_shares(deck, position, known=None):
    """The shares of both sides, by the words of point 7.2."""
    known = {} if known is None else known
    if position not in known:
        side = plain_turn(position) % 2
        found = [plain_shares_after(deck, position, card, known) for card in plain_legal(deck, position)]
        known[position] = max(found, key=lambda shares: shares[side]) if found else (0, 0)
    return known[position]


def plain_shares_after(deck, position, card, known):
    """The shares of both sides after a card, with the trick that it completes."""
    after = plain_after(deck, position, card)
    shares = list(plain_shares(deck, after, known))
    if not after[3]:
        shares[after[2] % 2] += 1
    return tuple(shares)


def walked(deck, hands, trump, leader, step, cards):
    """A play in which some cards have been put, picked by a pattern."""
    play = Play(deck, hands, trump, leader)
    for k in range(cards):
        legal = play.legal()
        play.put(legal[(step * (k + 1) + k * k) % len(legal)])
    return play


def state(play):
    """All that the methods of a play tell."""
    turn = None if play.is_over() else play.turn()
    return (play.deck(), play.trump(), play.hands(), play.leader(), play.led(), turn, play.legal(),
            play.history(), play.tricks(0), play.tricks(1), play.left(), play.is_over(), play.position())
