"""The play of a deal, and its positions `(trump, hands, leader, led)`."""

from finesse.cards import cards_of, count_cards, of_suit, suit_of
from finesse.deals import PLAYERS, check_deal, side_of
from finesse.errors import IllegalCard, InvalidTrump, NothingPut, PlayOver

NO_TRUMPS = -1
# Every deck that has deals has this one.
SMALLEST_DEAL = (1, 2, 4, 8)


def winner_of(deck, trump, leader, cards):
    """Return the player who wins a trick, or would win it now."""
    best = 0
    for place in range(1, len(cards)):
        if _beats(deck, trump, cards[place], cards[best]):
            best = place
    return (leader + best) % PLAYERS


class Play:
    """The play of a deal, card by card."""

    def __init__(self, deck, hands, trump, leader):
        check_deal(deck, hands)
        if not NO_TRUMPS <= trump < deck[0]:
            raise InvalidTrump("the trump is a suit of the deck or -1")
        self._deck = deck
        # The position at the beginning, and then the one after each put card.
        self._positions = [(trump, hands, leader, ())]
        self._history = []

    def deck(self):
        """Return the deck."""
        return self._deck

    def trump(self):
        """Return the trump suit, or -1."""
        return self.position()[0]

    def hands(self):
        """Return the tuple of the present hands."""
        return self.position()[1]

    def leader(self):
        """Return the leader of the present trick."""
        return self.position()[2]

    def led(self):
        """Return the list of the cards in the present trick."""
        return list(self.position()[3])

    def turn(self):
        """Return who puts the next card; raise PlayOver if nobody does."""
        if self.is_over():
            raise PlayOver("all cards have been put")
        return turn_at(self.position())

    def legal(self):
        """Return the ascending list of the cards that may be put next."""
        return legal_at(self._deck, self.position())

    def put(self, card):
        """Put a card; raise PlayOver or IllegalCard if it may not be put."""
        player = self.turn()
        if card not in self.legal():
            raise IllegalCard("this card may not be put now")
        self._positions.append(position_after(self._deck, self.position(), card))
        self._history.append((player, card))

    def take_back(self):
        """Take back the last put card; raise NothingPut if there is none."""
        if not self._history:
            raise NothingPut("no card has been put")
        self._positions.pop()
        self._history.pop()

    def history(self):
        """Return the list of the tuples of player and card of all put cards."""
        return list(self._history)

    def tricks(self, side):
        """Return how many tricks a side has won so far."""
        return sum([trick_won(later, side) for later in self._positions[1:]])

    def left(self):
        """Return how many tricks are not complete."""
        return left_at(self.position())

    def is_over(self):
        """Return True if all cards have been put, otherwise False."""
        return self.left() == 0

    def copy(self):
        """Return a new play in the same state."""
        twin = play_at(self._deck, self._positions[0])
        for _, card in self._history:
            twin.put(card)
        return twin

    def position(self):
        """Return the tuple of trump, present hands, leader and cards of the trick."""
        return self._positions[-1]

    def _begin_at(self, position):
        self._positions = [position]


def play_at(deck, position):
    """Return a play that begins in a position."""
    trump, _, leader, _ = position
    # The hands of a position need not be a deal, so any other ones have to do.
    play = Play(deck, SMALLEST_DEAL, trump, leader)
    play._begin_at(position)
    return play


def trump_of(deck, strain):
    """Return the trump suit, or -1, that belongs to a strain."""
    if strain == deck[0]:
        return NO_TRUMPS
    return strain


def turn_at(position):
    """Return the player who has the turn in a position."""
    _, _, leader, led = position
    return (leader + len(led)) % PLAYERS


def legal_at(deck, position):
    """Return the ascending list of the cards that may be put in a position."""
    _, hands, _, led = position
    hand = hands[turn_at(position)]
    if led:
        following = of_suit(deck, hand, suit_of(deck, led[0]))
        if following:
            return cards_of(following)
    return cards_of(hand)


def left_at(position):
    """Return how many tricks are not complete in a position."""
    return count_cards(position[1][turn_at(position)])


def position_after(deck, position, card):
    """Return the position after a legal card."""
    trump, hands, leader, led = position
    fewer = list(hands)
    fewer[turn_at(position)] ^= 1 << card
    trick = led + (card,)
    if len(trick) < PLAYERS:
        return trump, tuple(fewer), leader, trick
    return trump, tuple(fewer), winner_of(deck, trump, leader, trick), ()


def trick_won(later, side):
    """Return 1 if the card before a position completed a trick of a side, otherwise 0."""
    _, _, leader, led = later
    if led or side_of(leader) != side:
        return 0
    return 1


def _beats(deck, trump, card, best):
    """Return True if a card is better than the best one before it in the trick."""
    suit = suit_of(deck, card)
    if suit == suit_of(deck, best):
        return card > best
    return suit == trump
