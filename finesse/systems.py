"""Systems of bidding: rules that tell what to call, and what comes of them."""

from itertools import combinations

from finesse.auction import PASS, Auction, call_text, levels_of, read_call
from finesse.cards import check_deck, mask_of
from finesse.conditions import Condition
from finesse.errors import AuctionOver, InvalidLine, InvalidText, TooMany
from finesse.lines import told_lines
from finesse.numbering import choices
from finesse.par import forced_tricks
from finesse.search import Search

SEPARATOR = " ; "
ALWAYS = "*"
NO_CALLS = "-"
NO_RULE = -1
MOST_HANDS = 20000


class Rule:
    """A rule of a system: the pattern as it is written, the condition, and the call that it tells."""

    def __init__(self, deck, size, line):
        parts = line.split(SEPARATOR)
        if len(parts) != 3:
            raise InvalidText("a rule has three parts")
        self.pattern = parts[0]
        self.condition = Condition(deck, parts[1])
        self.told = _read_existing_call(deck, size, parts[2])
        self._calls = []
        if self.pattern not in (ALWAYS, NO_CALLS):
            self._calls = [_read_existing_call(deck, size, word) for word in self.pattern.split(" ")]
        if self.condition.players() not in ([], [0]):
            raise InvalidText("a rule asks for the hand of the player who calls only")

    def fits(self, calls):
        """Return True if the pattern fits calls, without passes at their beginning."""
        return self.pattern == ALWAYS or calls == self._calls

    def allows(self, hand):
        """Return True if the condition holds for the hand of the player who calls."""
        return self.condition.holds((hand, 0, 0, 0))


class System:
    """A system of bidding for a deck and hands of a size."""

    def __init__(self, deck, size, text):
        check_deck(deck)
        self._deck = deck
        self._size = size
        self._rules = []
        for number, line in told_lines(text):
            try:
                self._rules.append(Rule(deck, size, line))
            except InvalidText:
                raise InvalidLine(number) from None

    def rules(self):
        """Return the list of the tuples of the texts of pattern, condition and call."""
        suits = self._deck[0]
        return [(rule.pattern, rule.condition.text(), call_text(suits, rule.told)) for rule in self._rules]

    def call_for(self, hand, auction):
        """Return the call for a hand and the index of its rule, or -1; raise AuctionOver."""
        if auction.is_over():
            raise AuctionOver("no more calls can be made")
        calls = _without_first_passes(auction.calls())
        legal = auction.legal()
        for index, rule in enumerate(self._rules):
            if rule.fits(calls) and rule.told in legal and rule.allows(hand):
                return rule.told, index
        return PASS, NO_RULE

    def auction_for(self, hands, dealer):
        """Return the auction of a deal in which all players call by the system."""
        auction, _ = self._bid(hands, dealer)
        return auction

    def counts(self, hands_list, dealer):
        """Return how many times each rule tells a call in the auctions of some deals."""
        counts = [0] * len(self._rules)
        for hands in hands_list:
            _, used = self._bid(hands, dealer)
            for index in used:
                counts[index] += 1
        return counts

    def deck(self):
        """Return the deck."""
        return self._deck

    def size(self):
        """Return the number of the cards in each hand."""
        return self._size

    def rules_with(self, pattern):
        """Return the list of the tuples of index and rule of all rules with a pattern text."""
        return [(index, rule) for index, rule in enumerate(self._rules) if rule.pattern == pattern]

    def _bid(self, hands, dealer):
        """Return the auction of a deal and the list of the indexes of the rules that tell its calls."""
        auction = Auction(self._deck[0], self._size, dealer)
        used = []
        while not auction.is_over():
            call, index = self.call_for(hands[auction.turn()], auction)
            auction.call(call)
            if index != NO_RULE:
                used.append(index)
        return auction, used


def unused(system, deals, dealer):
    """Return the ascending list of the indexes of the rules that are never used for some deals."""
    return [index for index, count in enumerate(system.counts(deals, dealer)) if count == 0]


def boards(system, deals, dealer):
    """Return the list of the tuples of contract and tricks in the table for some deals."""
    return [_board(system, hands, dealer) for hands in deals]


def overlap(system, deck, pattern):
    """Return the ascending list of the pairs of rules with a pattern that some hand fulfils; raise TooMany."""
    hands = _all_hands(deck, system.size())
    found = []
    for index, rule in system.rules_with(pattern):
        found.append((index, mask_of([place for place, hand in enumerate(hands) if rule.allows(hand)])))
    return [(i, k) for i, allowed in found for k, other in found if i < k and allowed & other]


def _read_existing_call(deck, size, text):
    """Return the call with a text; raise InvalidText if there is none for hands of a size."""
    call = read_call(deck[0], text)
    if call[0] == "bid" and call[1] > levels_of(size):
        raise InvalidText("there is no bid of this level")
    return call


def _without_first_passes(calls):
    for place, call in enumerate(calls):
        if call != PASS:
            return calls[place:]
    return []


def _all_hands(deck, size):
    """Return the list of all hands of a size; raise TooMany if there are too many."""
    cards = deck[0] * deck[1]
    if choices(cards, size) > MOST_HANDS:
        raise TooMany("there are too many hands to go through")
    return [mask_of(list(hand)) for hand in combinations(range(cards), size)]


def _board(system, hands, dealer):
    deck = system.deck()
    contract = system.auction_for(hands, dealer).contract()
    if contract is None:
        return None, 0
    _, strain, _, declarer = contract
    return contract, forced_tricks(Search(deck), deck, hands, strain, declarer)
