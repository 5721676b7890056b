"""The search for what each side can force with open hands."""

from finesse.cards import mask_of, suit_of
from finesse.deals import side_of
from finesse.play import left_at, legal_at, position_after, trick_won, turn_at

# Each player wants tricks for the own side.
OWN_SIDES = (0, 1, 0, 1)


class Search:
    """Shares in positions of a deck; what has been found about a position is kept.

    `wishes` tells for each player the side that the player wants to win tricks.
    """

    def __init__(self, deck, wishes=OWN_SIDES):
        self._deck = deck
        self._wishes = wishes
        # From each position to the least and the most tricks that side 0 may force.
        self._bounds = {}

    def share(self, position, side):
        """Return the share of a side in a position."""
        left = left_at(position)
        count = 0
        while self._forces(position, count + 1):
            count += 1
        return count if side == 0 else left - count

    def can_win(self, position, side, goal):
        """Return True if the share of a side in a position is at least a goal."""
        if side == 0:
            return self._forces(position, goal)
        return not self._forces(position, left_at(position) - goal + 1)

    def card_shares(self, position):
        """Return the dict from each legal card to the share of the side that puts it."""
        side = side_of(turn_at(position))
        shares = {}
        for group in groups_at(self._deck, position):
            later = position_after(self._deck, position, group[0])
            count = trick_won(later, side) + self.share(later, side)
            for card in group:
                shares[card] = count
        return shares

    def best_cards(self, position):
        """Return the ascending list of the legal cards with the greatest share."""
        shares = self.card_shares(position)
        most = max(list(shares.values()), default=0)
        return [card for card in shares if shares[card] == most]

    def _forces(self, position, goal):
        """Return True if side 0 can be sure of at least `goal` tricks."""
        left = left_at(position)
        least, most = self._bounds.get(position, (0, left))
        if goal <= least or goal > most:
            return goal <= least
        forced = self._some_card_forces(position, goal)
        self._bounds[position] = (goal, most) if forced else (least, goal - 1)
        return forced

    def _some_card_forces(self, position, goal):
        """Return what the side that has the turn can bring about for `goal` tricks of side 0."""
        wanted = self._wishes[turn_at(position)] == 0
        # Cards of one group have the same share, so one of them is enough.
        for group in groups_at(self._deck, position):
            later = position_after(self._deck, position, group[0])
            if self._forces(later, goal - trick_won(later, 0)) == wanted:
                return wanted
        return not wanted


def groups_at(deck, position):
    """Return the groups of the legal cards between which it makes no difference."""
    _, hands, _, led = position
    own = hands[turn_at(position)]
    others = (hands[0] | hands[1] | hands[2] | hands[3] | mask_of(led)) & ~own
    groups = []
    for card in legal_at(deck, position):
        if groups and _are_alike(deck, groups[-1][-1], card, others):
            groups[-1].append(card)
        else:
            groups.append([card])
    return groups


def _are_alike(deck, low, high, others):
    """Return True if the other players have no card between two of the same suit."""
    between = (1 << high) - (2 << low)
    return suit_of(deck, low) == suit_of(deck, high) and between & others == 0
