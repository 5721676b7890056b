"""Records: texts that tell a whole board."""

from finesse.auction import Auction, call_text, read_call
from finesse.cards import card_text, check_deck, count_cards, read_card
from finesse.deals import PLAYERS, deal_text, next_player, read_deal, side_of
from finesse.errors import FinesseError, InvalidLine, InvalidText
from finesse.lines import LONGEST_NUMBER, lines_of, read_number, read_player, told_lines
from finesse.play import Play, trump_of
from finesse.scores import score_for

HEAD = ("deck", "deal", "dealer", "vulnerable")
# Whether each of the two sides is vulnerable.
VULNERABILITIES = {"none": (False, False), "0": (True, False), "1": (False, True), "both": (True, True)}


class Record:
    """A board: its deal, its auction and its play, as far as they have gone."""

    def __init__(self, text):
        lines = told_lines(text)
        head = _read_head(lines[:len(HEAD)])
        if len(head) < len(HEAD):
            raise InvalidLine(len(lines_of(text)) + 1)
        self._deck, self._hands, self._dealer, self._vulnerable = head
        self._auction = Auction(self._deck[0], self._size(), self._dealer)
        self._play = None
        for number, line in lines[len(HEAD):]:
            try:
                self._read_line(line)
            except FinesseError:
                raise InvalidLine(number) from None

    def deck(self):
        """Return the deck."""
        return self._deck

    def hands(self):
        """Return the deal."""
        return self._hands

    def dealer(self):
        """Return the dealer."""
        return self._dealer

    def vulnerable(self):
        """Return the list that tells whether each side is vulnerable."""
        return list(VULNERABILITIES[self._vulnerable])

    def auction(self):
        """Return a new auction with the calls."""
        auction = Auction(self._deck[0], self._size(), self._dealer)
        for call in self._auction.calls():
            auction.call(call)
        return auction

    def play(self):
        """Return a new play with the put cards, or None if there is none."""
        if self._play is None:
            return None
        return self._play.copy()

    def result(self):
        """Return the score from the view of side 0, or None if the board is not finished."""
        if not self._auction.is_over():
            return None
        contract = self._auction.contract()
        if contract is None:
            return 0
        if not self._play.is_over():
            return None
        tricks = self._play.tricks(side_of(contract[3]))
        return score_for(self._deck[0], self._size(), contract, tricks, self.vulnerable(), 0)

    def text(self):
        """Return the text of the record in its standard form."""
        suits, ranks = self._deck
        lines = [f"deck {suits} {ranks}", "deal " + deal_text(self._deck, self._hands)]
        lines += [f"dealer {self._dealer}", "vulnerable " + self._vulnerable]
        calls = [call_text(suits, call) for call in self._auction.calls()]
        if calls:
            lines.append("call " + " ".join(calls))
        history = [] if self._play is None else self._play.history()
        cards = [card_text(self._deck, card) for _, card in history]
        for first in range(0, len(cards), PLAYERS):
            lines.append("put " + " ".join(cards[first:first + PLAYERS]))
        return "".join([line + "\n" for line in lines])

    def _size(self):
        return count_cards(self._hands[0])

    def _read_line(self, line):
        """Add what a line behind the head tells; raise an error if it is wrong."""
        words = line.split(" ")
        if len(words) < 2:
            raise InvalidText("a line has at least one call or card")
        if words[0] == "call":
            self._make_calls(words[1:])
        elif words[0] == "put" and self._play is not None:
            for word in words[1:]:
                self._play.put(read_card(self._deck, word))
        else:
            raise InvalidText("no other lines may stand here")

    def _make_calls(self, words):
        for word in words:
            self._auction.call(read_call(self._deck[0], word))
        if self._auction.is_over() and self._auction.contract() is not None:
            self._play = _begun_play(self._deck, self._hands, self._auction.contract())


def _read_head(lines):
    """Return the list of what the first lines tell; raise InvalidLine if one is wrong."""
    head = []
    for number, line in lines:
        try:
            head.append(_read_head_line(head, line))
        except FinesseError:
            raise InvalidLine(number) from None
    return head


def _read_head_line(head, line):
    """Return what a line tells behind lines that have told what `head` has."""
    wanted = HEAD[len(head)]
    word, _, rest = line.partition(" ")
    if word != wanted:
        raise InvalidText("another line is needed here")
    if wanted == "deck":
        return _read_deck(rest)
    if wanted == "deal":
        return read_deal(head[0], rest)
    if wanted == "dealer":
        return read_player(rest)
    if rest not in VULNERABILITIES:
        raise InvalidText("no vulnerability has this name")
    return rest


def _read_deck(text):
    numbers = [read_number(word, LONGEST_NUMBER) for word in text.split(" ")]
    if len(numbers) != 2:
        raise InvalidText("a deck has two numbers")
    suits, ranks = numbers
    check_deck((suits, ranks))
    return suits, ranks


def _begun_play(deck, hands, contract):
    """Return the play of a deal with a contract, before the first card."""
    _, strain, _, declarer = contract
    return Play(deck, hands, trump_of(deck, strain), next_player(declarer))
