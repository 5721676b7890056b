"""Tables of what each declarer can make, and par."""

from finesse.auction import levels_of
from finesse.deals import PLAYERS, check_deal, next_player, side_of
from finesse.play import trump_of
from finesse.scores import needed, score_for
from finesse.search import Search

# The moves of the game of par are these, the bids ("bid", level, strain, declarer)
# and the ends with a contract ("end", level, strain, doubled, declarer).
START = ("start",)
LEAVE = ("leave",)
END_WITHOUT_BID = ("end",)


class Game:
    """The game of par, with the score of side 0 that follows each move."""

    def __init__(self, table, size, dealer, vulnerable):
        self._first_side = side_of(dealer)
        self._bids = [("bid", *bid) for bid in _bids_of(table, size)]
        self._scores = {END_WITHOUT_BID: 0}
        for bid in self._bids:
            for end in _ends_of(bid):
                contract, tricks = end[1:], table[bid[2]][bid[3]]
                self._scores[end] = score_for(len(table) - 1, size, contract, tricks, vulnerable, 0)
        # The answers to a bid are higher than the bid.
        for move in list(reversed(self._bids)) + [LEAVE, START]:
            scores = [self._scores[answer] for answer in self._answers(move)]
            self._scores[move] = max(scores) if self._side_to_answer(move) == 0 else min(scores)

    def score(self, move):
        """Return the score of side 0 that follows a move."""
        return self._scores[move]

    def best_answers(self, move):
        """Return the list of the moves that may follow a move without a mistake."""
        return [answer for answer in self._answers(move) if self._scores[answer] == self._scores[move]]

    def _answers(self, move):
        """Return the list of all moves that may follow a move."""
        if move[0] == "end":
            return []
        side = self._side_to_answer(move)
        bids = [bid for bid in self._bids if side_of(bid[3]) == side]
        if move == START:
            return bids + [LEAVE]
        if move == LEAVE:
            return bids + [END_WITHOUT_BID]
        return [bid for bid in bids if bid[1:3] > move[1:3]] + _ends_of(move)

    def _side_to_answer(self, move):
        if move == START:
            return self._first_side
        if move == LEAVE:
            return 1 - self._first_side
        return 1 - side_of(move[3])


def table_of(deck, hands):
    """Return the table of a deal; raise InvalidDeck or InvalidDeal if it is none."""
    check_deal(deck, hands)
    search = Search(deck)
    table = []
    for strain in range(deck[0] + 1):
        table.append([forced_tricks(search, deck, hands, strain, declarer) for declarer in range(PLAYERS)])
    return table


def forced_tricks(search, deck, hands, strain, declarer):
    """Return the number of the tricks that a declarer's side can force in a strain."""
    position = (trump_of(deck, strain), hands, next_player(declarer), ())
    return search.share(position, side_of(declarer))


def par(table, size, dealer, vulnerable):
    """Return the par from the view of side 0."""
    return Game(table, size, dealer, vulnerable).score(START)


def par_contracts(table, size, dealer, vulnerable):
    """Return the ascending list of the contracts of par; None in front for no bid."""
    game = Game(table, size, dealer, vulnerable)
    seen = set()
    waiting = [START]
    while waiting:
        move = waiting.pop()
        if move not in seen:
            seen.add(move)
            waiting += game.best_answers(move)
    # Of the ends, that without a bid is the least tuple.
    return [end[1:] or None for end in sorted(seen) if end[0] == "end"]


def makeable(table, size):
    """Return the ascending list of the bids that a table makes."""
    return [bid for bid in _bids_of(table, size) if table[bid[1]][bid[2]] >= needed(size, bid[0])]


def _bids_of(table, size):
    """Return the ascending list of all bids (level, strain, declarer)."""
    bids = []
    for level in range(1, levels_of(size) + 1):
        for strain in range(len(table)):
            bids += [(level, strain, declarer) for declarer in range(PLAYERS)]
    return bids


def _ends_of(bid):
    """Return the ends of the game if a bid is left, not doubled and doubled."""
    _, level, strain, declarer = bid
    return [("end", level, strain, doubled, declarer) for doubled in (0, 1)]
