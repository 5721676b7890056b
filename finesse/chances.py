"""What can be forced in the deals that fit what a player has seen."""

from finesse.counting import fraction
from finesse.deals import side_of
from finesse.search import Search
from finesse.views import fits, view_of_play


def share_chances(play, open_player):
    """Return the fractions of the fits with shares of 0, 1, ..; raise PlayOver or TooMany."""
    side = side_of(play.turn())
    positions = positions_of_fits(play, open_player)
    counts = [0] * (play.left() + 1)
    for position in positions:
        # What is kept about many fits would need too much memory.
        counts[Search(play.deck()).share(position, side)] += 1
    return [fraction(count, len(positions)) for count in counts]


def card_chances(play, open_player, goal):
    """Return the dict from each legal card to the fraction of the fits in which it is enough.

    It is enough for a goal if the share after the card is at least the goal. Raise
    PlayOver or TooMany.
    """
    positions = positions_of_fits(play, open_player)
    counts = {card: 0 for card in play.legal()}
    for position in positions:
        for card, tricks in Search(play.deck()).card_shares(position).items():
            if tricks >= goal:
                counts[card] += 1
    return {card: fraction(count, len(positions)) for card, count in counts.items()}


def positions_of_fits(play, open_player):
    """Return the positions, in the order of the fits, that the player who has the turn must reckon with.

    Raise PlayOver, and TooMany if there are more than 20000.
    """
    trump, _, leader, led = play.position()
    found = fits(view_of_play(play, play.turn(), open_player))
    return [(trump, hands, leader, led) for hands in found]
