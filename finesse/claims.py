"""Claims: what happens in every play to the end, whoever puts what."""

from finesse.deals import PLAYERS
from finesse.search import Search


def least_tricks(play, side):
    """Return the least number of the remaining tricks that a side wins in any legal play."""
    return _tricks_if_all_wish(play, side, 1 - side)


def most_tricks(play, side):
    """Return the greatest number of the remaining tricks that a side wins in any legal play."""
    return _tricks_if_all_wish(play, side, side)


def claim_holds(play, side, count):
    """Return True if a side wins at least so many tricks in every legal play, otherwise False."""
    return least_tricks(play, side) >= count


def _tricks_if_all_wish(play, side, helped):
    """Return the number of the tricks of a side if all players want one side to win tricks."""
    return Search(play.deck(), (helped,) * PLAYERS).share(play.position(), side)
