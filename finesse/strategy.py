"""Strategy papers: which card a side puts in each position that it can come to."""

from finesse.deals import side_of
from finesse.errors import WrongPaper
from finesse.play import left_at, legal_at, position_after, trick_won, turn_at
from finesse.search import Search


class Checker:
    """A paper of a side, and what has been found about the positions that it leads to."""

    def __init__(self, deck, side, paper):
        self._deck = deck
        self._side = side
        self._told = {position: card for position, card in paper}
        # From each pair of a position and the number of tricks that are missing
        # there, at least one, to True if the side wins them.
        self._found = {}

    def holds(self, position, missing):
        """Return True if the side wins all missing tricks from a position on."""
        if missing <= 0:
            return True
        pair = (position, missing)
        if pair not in self._found:
            self._found[pair] = self._holds_here(position, missing)
        return self._found[pair]

    def reached(self):
        """Return the dict of True from all positions that were come to with missing tricks."""
        return {position: True for position, _ in self._found}

    def _holds_here(self, position, missing):
        cards = legal_at(self._deck, position)
        if _is_turn_of(self._side, position):
            told = self._told.get(position)
            cards = [card for card in cards if card == told]
        for card in cards:
            later = position_after(self._deck, position, card)
            if not self.holds(later, missing - trick_won(later, self._side)):
                return False
        return len(cards) > 0


def paper_holds(play, side, goal, paper):
    """Return True if a paper holds for a side and a goal, otherwise False."""
    return Checker(play.deck(), side, paper).holds(play.position(), goal)


def paper_for(play, side):
    """Return a paper that holds for the share of a side."""
    deck = play.deck()
    search = Search(deck)
    told = {}
    seen = set()
    waiting = [(play.position(), search.share(play.position(), side))]
    while waiting:
        position, missing = waiting.pop()
        if missing <= 0 or (position, missing) in seen:
            continue
        seen.add((position, missing))
        cards = legal_at(deck, position)
        if _is_turn_of(side, position):
            # A best card is right however many tricks are missing.
            cards = search.best_cards(position)[:1]
            told[position] = cards[0]
        for card in cards:
            later = position_after(deck, position, card)
            waiting.append((later, missing - trick_won(later, side)))
    return tuple(sorted(told.items()))


def follow(play, side, paper, picks):
    """Play on to the end by a paper and by picks of the other side; count the tricks."""
    deck = play.deck()
    told = {position: card for position, card in paper}
    position = play.position()
    cards = []
    tricks = 0
    picks_left = list(reversed(picks))
    while left_at(position):
        legal = legal_at(deck, position)
        if _is_turn_of(side, position):
            card = told.get(position)
            card = card if card in legal else legal[0]
        else:
            pick = picks_left.pop() if picks_left else 0
            card = legal[pick % len(legal)]
        cards.append(card)
        position = position_after(deck, position, card)
        tricks += trick_won(position, side)
    return cards, tricks


def shortened(play, side, goal, paper):
    """Return the entries of a paper that are needed; raise WrongPaper if it does not hold."""
    checker = Checker(play.deck(), side, paper)
    if not checker.holds(play.position(), goal):
        raise WrongPaper("the paper does not hold for this goal")
    reached = checker.reached()
    return tuple([entry for entry in paper if entry[0] in reached and _is_turn_of(side, entry[0])])


def _is_turn_of(side, position):
    return side_of(turn_at(position)) == side
