"""What the sides can force with open hands."""

from finesse.play import position_after
from finesse.search import Search, groups_at


def share(play, side):
    """Return how many of the remaining tricks a side can be sure to win."""
    return Search(play.deck()).share(play.position(), side)


def card_shares(play):
    """Return the dict from each legal card to the share after it of the side that puts it."""
    return Search(play.deck()).card_shares(play.position())


def best_cards(play):
    """Return the ascending list of the legal cards with the greatest share."""
    return Search(play.deck()).best_cards(play.position())


def alike(play):
    """Return the list of the groups of legal cards that are as good as each other."""
    return groups_at(play.deck(), play.position())


def line_of(play):
    """Return a list of best cards, one after the other, to the end of the play."""
    search = Search(play.deck())
    position = play.position()
    line = []
    best = search.best_cards(position)
    while best:
        line.append(best[0])
        position = position_after(play.deck(), position, best[0])
        best = search.best_cards(position)
    return line
