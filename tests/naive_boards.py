"""Boards, the same at every run, with their records in plain and in scattered form."""

import random

from finesse.auction import Auction, call_text
from finesse.numbering import count_deals, deal_of_number
from finesse.play import Play

from tests.naive import deal_words
from tests.naive_conditions import card_word

DECKS = [((1, 4), 1), ((1, 6), 1), ((4, 2), 1), ((2, 4), 2), ((4, 2), 2), ((3, 4), 3), ((1, 13), 3), ((4, 13), 2),
         ((4, 4), 4)]
NAMES = {"none": [False, False], "0": [True, False], "1": [False, True], "both": [True, True]}


class Board:
    """A board whose auction and play have gone on for some calls and cards."""

    def __init__(self, numbers, deck, size, calls, cards):
        self.deck = deck
        self.hands = deal_of_number(deck, size, numbers.randrange(count_deals(deck, size)))
        self.dealer = numbers.randrange(4)
        self.name = numbers.choice(sorted(NAMES))
        self.auction = Auction(deck[0], size, self.dealer)
        while not self.auction.is_over() and len(self.auction.calls()) < calls:
            legal = self.auction.legal()
            self.auction.call(numbers.choice([("pass",), ("pass",), legal[1 % len(legal)], numbers.choice(legal)]))
        self.play = None
        if self.auction.is_over() and self.auction.contract() is not None:
            _, strain, _, declarer = self.auction.contract()
            self.play = Play(deck, self.hands, strain if strain < deck[0] else -1, (declarer + 1) % 4)
            while not self.play.is_over() and len(self.play.history()) < cards:
                self.play.put(numbers.choice(self.play.legal()))

    def calls(self):
        return [call_text(self.deck[0], call) for call in self.auction.calls()]

    def cards(self):
        return [] if self.play is None else [card_word(self.deck, card) for _, card in self.play.history()]

    def head(self):
        return [f"deck {self.deck[0]} {self.deck[1]}", "deal " + deal_words(self.deck, self.hands),
                f"dealer {self.dealer}", f"vulnerable {self.name}"]

    def standard(self):
        """The text in the standard form."""
        lines = self.head()
        if self.calls():
            lines.append("call " + " ".join(self.calls()))
        cards = self.cards()
        while cards:
            lines.append("put " + " ".join(cards[:4]))
            cards = cards[4:]
        return "".join(line + "\n" for line in lines)

    def told(self, numbers):
        """The lines, with the calls and the cards divided anyhow."""
        return self.head() + divided(numbers, "call", self.calls()) + divided(numbers, "put", self.cards())


def divided(numbers, word, parts):
    lines = []
    while parts:
        count = numbers.randrange(1, len(parts) + 1) if numbers.random() < 0.5 else 1
        lines.append(word + " " + " ".join(parts[:count]))
        parts = parts[count:]
    return lines


def scattered(numbers, told):
    """The text of lines with empty lines and remarks between them, and the number of each of the lines."""
    lines = []
    places = []
    for line in told:
        while numbers.random() < 0.3:
            lines.append(numbers.choice(["", "#", "# a remark", "#call P", "#deck 1 4"]))
        lines.append(line)
        places.append(len(lines))
    while numbers.random() < 0.3:
        lines.append(numbers.choice(["# the end", "#"]))
    return "\n".join(lines) + numbers.choice(["", "\n"]), places


def some_boards(count, seed):
    numbers = random.Random(seed)
    for _ in range(count):
        deck, size = numbers.choice(DECKS)
        yield numbers, Board(numbers, deck, size, numbers.choice([0, 1, 3, 6, 99, 99, 99]), numbers.choice([0, 1, 3, 4, 5, 99, 99]))
