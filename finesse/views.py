"""Views of hands that are partly hidden, and the fits of a view."""

from itertools import combinations

from finesse.cards import cards_of, check_deck, count_cards, mask_of, of_suit, suit_of
from finesse.counting import Ways, fraction
from finesse.deals import PLAYERS
from finesse.errors import InvalidView, NoFit, NoSuchNumber, TooMany
from finesse.numbering import choices

MOST_FITS = 20000


def check_view(view):
    """Raise InvalidDeck or InvalidView if a tuple of the right form is not a view."""
    deck, known, counts, pool, barred = view
    check_deck(deck)
    placed = 0
    for cards in known + (pool,):
        if cards >> (deck[0] * deck[1]) or cards & placed:
            raise InvalidView("each card is in the deck and in one place only")
        placed |= cards
    if min(counts) < 0 or sum(counts) > count_cards(pool):
        raise InvalidView("the pool has enough cards for all further cards")
    if any([suits >> deck[0] for suits in barred]):
        raise InvalidView("only suits of the deck are barred")


def view_of_play(play, player, open_player):
    """Return the view of a player of a play, for whom another hand may lie open."""
    deck, hands = play.deck(), play.hands()
    seen = [player, open_player]
    known = tuple([hand if owner in seen else 0 for owner, hand in enumerate(hands)])
    counts = tuple([0 if owner in seen else count_cards(hand) for owner, hand in enumerate(hands)])
    barred = tuple([0 if owner in seen else suits for owner, suits in enumerate(_suits_shown_out(play))])
    placed = mask_of([card for _, card in play.history()] + play.led())
    whole_deck = (1 << deck[0] * deck[1]) - 1
    pool = whole_deck & ~(placed | known[0] | known[1] | known[2] | known[3])
    return deck, known, counts, pool, barred


def count_fits(view):
    """Return the number of fits."""
    return _count(Ways(), view, 0, -1)


def fit_of_number(view, number):
    """Return the fit with a number; raise NoSuchNumber if there is none."""
    ways = Ways()
    if not 0 <= number < _count(ways, view, 0, -1):
        raise NoSuchNumber("no fit has this number")
    for player in range(PLAYERS):
        view, number = _with_numbered_cards(ways, view, player, number)
    return view[1]


def fits(view):
    """Return the list of all fits in order; raise TooMany if there are more than 20000."""
    if count_fits(view) > MOST_FITS:
        raise TooMany("there are too many fits for a list")
    ways = Ways()
    found = [view]
    for player in range(PLAYERS):
        found = [later for begun in found for later in _with_all_cards(ways, begun, player)]
    return [known for _, known, _, _, _ in found]


def holding_chance(view, player, card):
    """Return the fraction of the fits in which a player has a card; raise NoFit."""
    total = _some_fits(view)
    _, known, _, pool, _ = view
    if known[player] >> card & 1:
        return 1, 1
    if not pool >> card & 1 or not _may_get(view, player, card):
        return 0, 1
    return fraction(count_fits(_given(view, player, 1 << card)), total)


def length_chances(view, player, suit):
    """Return the fractions of the fits in which a player has 0, 1, .. cards of a suit; raise NoFit."""
    total = _some_fits(view)
    deck, known, _, _, _ = view
    already = count_cards(of_suit(deck, known[player], suit))
    return [fraction(_count_taking(view, player, suit, length - already), total) for length in range(deck[1] + 1)]


def _suits_shown_out(play):
    """Return the masks of the suits that the players did not follow in tricks that are seen."""
    beginning = play.copy()
    for _ in play.history():
        beginning.take_back()
    # The players of the cards of this trick may be seen only as long as it is the present one.
    trick = beginning.led()
    answers = []
    for player, card in play.history():
        trick.append(card)
        answers.append((player, trick[0], card))
        if len(trick) == PLAYERS:
            trick = []
    present = play.led()
    for place, card in enumerate(present):
        answers.append(((play.leader() + place) % PLAYERS, present[0], card))
    suits = [0] * PLAYERS
    for player, led, card in answers:
        if suit_of(play.deck(), card) != suit_of(play.deck(), led):
            suits[player] |= 1 << suit_of(play.deck(), led)
    return suits


def _some_fits(view):
    """Return the number of fits; raise NoFit if there is none."""
    total = count_fits(view)
    if total == 0:
        raise NoFit("no deal fits what is known")
    return total


def _count(ways, view, player, last_card):
    """Return the number of the fits in which the further cards of a player are above a card."""
    deck, _, counts, pool, _ = view
    piles = []
    for card in cards_of(pool):
        takers = _takers(view, suit_of(deck, card))
        if card <= last_card:
            takers &= ~(1 << player)
        piles.append((takers, 1))
    return ways.count(piles, counts)


def _takers(view, suit):
    """Return the mask of the players who may have further cards of a suit."""
    takers = 0
    for player, suits in enumerate(view[4]):
        if not suits >> suit & 1:
            takers |= 1 << player
    return takers


def _may_get(view, player, card):
    """Return True if a card of the pool may be one of the further cards of a player."""
    deck, _, counts, _, _ = view
    return counts[player] > 0 and _takers(view, suit_of(deck, card)) >> player & 1 == 1


def _given(view, player, cards):
    """Return the view in which a player is known to have these cards of the pool, too."""
    deck, known, counts, pool, barred = view
    more_known, fewer_counts = list(known), list(counts)
    more_known[player] |= cards
    fewer_counts[player] -= count_cards(cards)
    return deck, tuple(more_known), tuple(fewer_counts), pool & ~cards, barred


def _with_numbered_cards(ways, view, player, number):
    """Return the view with all cards of a player in the fit with a number, and its number there."""
    for card in cards_of(view[3]):
        if _may_get(view, player, card):
            later = _given(view, player, 1 << card)
            with_card = _count(ways, later, player, card)
            if number < with_card:
                view = later
            else:
                number -= with_card
    return view, number


def _with_all_cards(ways, view, player):
    """Return the views with all cards of a player that lead to fits, in their order."""
    deck, _, counts, pool, _ = view
    cards_of_piles = {}
    for card in cards_of(pool):
        cards_of_piles.setdefault(_takers(view, suit_of(deck, card)), []).append(card)
    piles = [(takers, len(cards)) for takers, cards in cards_of_piles.items()]
    hands = []
    for taken, _ in ways.splits(piles, counts, player):
        hands += _hands_of(list(cards_of_piles.values()), taken)
    return [_given(view, player, mask_of(hand)) for hand in sorted(hands)]


def _hands_of(piles, taken):
    """Return the ascending lists of so many cards out of each pile."""
    hands = [[]]
    for cards, count in zip(piles, taken):
        hands = [hand + list(some) for hand in hands for some in _some_of(cards, count)]
    return [sorted(hand) for hand in hands]


def _some_of(cards, count):
    return list(combinations(cards, count))


def _count_taking(view, player, suit, count):
    """Return the number of the fits in which a player gets so many further cards of a suit."""
    deck, _, counts, pool, barred = view
    cards = cards_of(of_suit(deck, pool, suit))
    if not 0 <= count <= min(counts[player], len(cards)):
        return 0
    if count > 0 and not _may_get(view, player, cards[0]):
        return 0
    # It does not matter which cards these are: count with the first ones.
    _, known, fewer_counts, rest, _ = _given(view, player, mask_of(cards[:count]))
    no_more = list(barred)
    no_more[player] |= 1 << suit
    with_first = count_fits((deck, known, fewer_counts, rest, tuple(no_more)))
    return choices(len(cards), count) * with_first
