"""Plans: what a player puts from the own hand and an open one while two hands are hidden."""

from finesse.cards import cards_of, count_cards, mask_of
from finesse.chances import positions_of_fits
from finesse.counting import fraction
from finesse.deals import partner_of, side_of
from finesse.errors import TooMany
from finesse.play import legal_at, position_after, trick_won, turn_at
from finesse.search import Search, groups_at
from finesse.views import count_fits, view_of_play

MOST_PLAN_FITS = 200
QUICK_WIDTH = 16


class Trial:
    """A plan of a side that is tried out."""

    def __init__(self, deck, side, plan):
        self._deck = deck
        self._side = side
        self._plan = plan

    def wins(self, seen, position, missing):
        """Return True if the side wins all missing tricks from a position on, behind what has been seen."""
        if missing <= 0:
            return True
        cards = legal_at(self._deck, position)
        if side_of(turn_at(position)) == self._side:
            told = self._plan.get(seen)
            cards = [card for card in cards if card == told]
        for card in cards:
            later = position_after(self._deck, position, card)
            if not self.wins(seen + (card,), later, missing - trick_won(later, self._side)):
                return False
        return len(cards) > 0


class Planner:
    """The search for a plan of a side.

    What may be, after some cards, is a dict from the indexes of fits to the positions
    in them, which differ only in the hidden hands. In each of these fits the side can
    force all missing tricks with open hands; the other fits are lost anyhow. A set of
    fits is the mask of their indexes.

    Sets that cannot belong to a plan that wins in at least `enough` of `total` fits at
    the beginning are left out. So are, if `width` is not None, all but some great sets.
    """

    def __init__(self, deck, side, total, enough, width):
        self._deck = deck
        self._side = side
        self._total = total
        self._enough = enough
        self._width = width
        self._search = Search(deck)
        self._found = {}

    def not_lost(self, positions, missing):
        """Return those of the positions in which the side can force all missing tricks."""
        side = self._side
        return {index: positions[index] for index in positions
                if self._search.can_win(positions[index], side, missing)}

    def winning_sets(self, positions, missing):
        """Return the sets of fits in which some way to go on wins, but none that is part of another."""
        if missing <= 0 or len(positions) < 2:
            return [mask_of(list(positions))]
        # One position tells which cards have been put, and so it tells the others, too.
        key = (mask_of(list(positions)), positions[min(positions)], missing)
        if key not in self._found:
            if self._has_turn(positions):
                self._found[key] = self._sets_of_own_cards(positions, missing)
            else:
                self._found[key] = self._sets_of_other_cards(positions, missing)
        return self._found[key]

    def tell(self, seen, positions, missing, plan):
        """Add to a plan what wins in all fits that may be, if something does."""
        if missing <= 0 or not positions:
            return
        if not self._has_turn(positions):
            for card, later in self._after_other_cards(positions).items():
                self.tell(seen + (card,), later, missing - self._won(later), plan)
            return
        for card in self._own_cards(positions):
            later, rest = self._after_own_card(positions, card, missing)
            if self.winning_sets(later, rest) == [mask_of(list(positions))]:
                plan[seen] = card
                self.tell(seen + (card,), later, rest, plan)
                return

    def _has_turn(self, positions):
        return side_of(turn_at(positions[min(positions)])) == self._side

    def _won(self, positions):
        return trick_won(positions[min(positions)], self._side)

    def _own_cards(self, positions):
        """Return the cards that the side may put, but only one of several that are as good."""
        trump, _, leader, led = positions[min(positions)]
        # The side cannot tell which of these cards the other players really hold.
        held = [0, 0, 0, 0]
        for index in positions:
            for player, hand in enumerate(positions[index][1]):
                held[player] |= hand
        return [group[0] for group in groups_at(self._deck, (trump, tuple(held), leader, led))]

    def _after_own_card(self, positions, card, missing):
        """Return what may be after a card of the side, and how many tricks are missing then."""
        later = {index: position_after(self._deck, positions[index], card) for index in positions}
        rest = missing - self._won(later)
        return self.not_lost(later, rest), rest

    def _after_other_cards(self, positions):
        """Return the dict from each card that may come to what may be after it."""
        later = {}
        for index in positions:
            for card in legal_at(self._deck, positions[index]):
                if card not in later:
                    later[card] = {}
                later[card][index] = position_after(self._deck, positions[index], card)
        return later

    def _sets_of_own_cards(self, positions, missing):
        whole = mask_of(list(positions))
        found = []
        for card in self._own_cards(positions):
            later, rest = self._after_own_card(positions, card, missing)
            found += self.winning_sets(later, rest)
            if whole in found:
                return [whole]
        return self._useful(found, positions)

    def _sets_of_other_cards(self, positions, missing):
        whole = mask_of(list(positions))
        found = [whole]
        for later in self._after_other_cards(positions).values():
            sets = self.winning_sets(later, missing - self._won(later))
            # Where this card cannot come, it does not matter how to go on after it.
            free = whole ^ mask_of(list(later))
            if sets != [whole ^ free]:
                joined = [begun & (some | free) for begun in found for some in sets]
                found = self._useful(joined, positions)
            if not found:
                break
        return found

    def _useful(self, sets, positions):
        """Return those of some sets of the fits that may be that are not left out."""
        elsewhere = self._total - len(positions)
        great = [some for some in sets if count_cards(some) + elsewhere >= self._enough]
        return _greatest(great)[:self._width]


def plan_wins(play, goal, plan):
    """Return the list of the fits in which a plan wins; raise PlayOver or TooMany."""
    positions = _few_positions(play)
    trial = Trial(play.deck(), side_of(play.turn()), plan)
    return [position[1] for position in positions if trial.wins((), position, goal)]


def plan_chance(play, goal, plan):
    """Return the fraction of the fits in which a plan wins; raise PlayOver or TooMany."""
    return fraction(len(plan_wins(play, goal, plan)), len(_few_positions(play)))


def best_plan(play, goal):
    """Return a plan that wins in as many fits as possible; raise PlayOver or TooMany."""
    positions = _few_positions(play)
    deck, side = play.deck(), side_of(play.turn())
    total = len(positions)
    # The first search finds a good plan soon; with it, the second one need not go through worse ones.
    quick = Planner(deck, side, total, 0, QUICK_WIDTH)
    hopeful = quick.not_lost({index: position for index, position in enumerate(positions)}, goal)
    good = max([count_cards(some) for some in quick.winning_sets(hopeful, goal)])
    won = max(Planner(deck, side, len(hopeful), good, None).winning_sets(hopeful, goal), key=count_cards)
    plan = {}
    chosen = {index: hopeful[index] for index in cards_of(won)}
    Planner(deck, side, len(chosen), len(chosen), None).tell((), chosen, goal, plan)
    return plan


def _few_positions(play):
    """Return the positions that may be, with the partner's hand open; raise PlayOver or TooMany."""
    player = play.turn()
    if count_fits(view_of_play(play, player, partner_of(player))) > MOST_PLAN_FITS:
        raise TooMany("there are too many fits for plans")
    return positions_of_fits(play, partner_of(player))


def _greatest(masks):
    """Return those of some masks that are not part of another one."""
    kept = []
    # A mask is only part of one with more members.
    for mask in sorted(sorted(set(masks)), key=count_cards, reverse=True):
        if not _is_part(mask, kept):
            kept.append(mask)
    return kept


def _is_part(mask, others):
    for other in others:
        if mask & other == mask:
            return True
    return False
